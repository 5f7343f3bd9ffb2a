"""Lines of calls and what they answer, both as lists of whole numbers."""

from groundtower.limits import WRONG
from groundtower.tower import Tower
from groundtower.ways import is_ground

TG_START = 0
TG_ENTER = 1
TG_LEAVE = 2
TG_GIVE = 3
TG_DROP = 4
TG_HEARD = 5
TG_TICK = 6

TOLD_TO_VEHICLE = 0


# A line of calls: how far its numbers are read, and the tower once it has begun.
class Line:
    def __init__(self, calls):
        self.calls = calls
        self.place = 0
        self.tower = None

    def has_more(self):
        return self.place < len(self.calls)

    def next_number(self):
        number = self.calls[self.place]
        self.place += 1
        return number

    def next_row(self):
        length = self.next_number()
        row = self.calls[self.place:self.place + length]
        self.place += length
        return row


def start_tower(line):
    n = line.next_number()
    near = line.next_row()
    if not is_ground(n, near):
        return WRONG
    line.tower = Tower(n, near)
    return 0


def enter_ground(line):
    v = line.next_number()
    piece = line.next_number()
    return line.tower.enter(v, piece)


def give_way(line):
    v = line.next_number()
    way = line.next_row()
    return line.tower.give(v, way)


# The whole answer, not its number alone: of the tower's calls only a tick tells things.
def tick_tower(line):
    told = line.tower.tick()
    answer = [0, len(told)]
    for v, frame in told:
        answer.extend([TOLD_TO_VEHICLE, v] + frame)
    return answer


def answer_of(line):
    call = line.next_number()
    if call == TG_START:
        return [start_tower(line), 0]
    if call == TG_ENTER:
        return [enter_ground(line), 0]
    if call == TG_LEAVE:
        return [line.tower.leave(line.next_number()), 0]
    if call == TG_GIVE:
        return [give_way(line), 0]
    if call == TG_DROP:
        return [line.tower.drop(line.next_number()), 0]
    if call == TG_HEARD:
        return [line.tower.heard(line.next_row()), 0]
    if call == TG_TICK:
        return tick_tower(line)
    raise ValueError(f"there is no call {call}")


def answers(calls):
    line = Line(calls)
    given = []
    while line.has_more():
        answer = answer_of(line)
        given.append(len(answer))
        given.extend(answer)
    return given
