"""Lines of calls and what they answer, both as lists of whole numbers."""

from groundtower.ends import End, is_end
from groundtower.limits import WRONG
from groundtower.told import nothing_told, sent_to_vehicles
from groundtower.tower import Tower
from groundtower.ways import is_ground

TG_START = 0
TG_ENTER = 1
TG_LEAVE = 2
TG_GIVE = 3
TG_DROP = 4
TG_HEARD = 5
TG_TICK = 6
TG_AT = 7
TG_LEFT = 8
VG_START = 9
VG_HEARD = 10
VG_AWAY = 11
VG_TICK = 12
VG_AT = 13


# A line of calls: how far its numbers are read, and the tower and the vehicles' ends that have begun.
class Line:
    def __init__(self, calls):
        self.calls = calls
        self.place = 0
        self.tower = None
        self.ends = {}

    def has_more(self):
        return self.place < len(self.calls)

    def next_number(self):
        number = self.calls[self.place]
        self.place += 1
        return number

    def next_row(self):
        length = self.next_number()
        row = self.calls[self.place:self.place + length]
        self.place += length
        return row


def start_tower(line):
    n = line.next_number()
    near = line.next_row()
    if not is_ground(n, near):
        return WRONG
    line.tower = Tower(n, near)
    return 0


def enter_ground(line):
    v = line.next_number()
    piece = line.next_number()
    return line.tower.enter(v, piece)


def give_way(line):
    v = line.next_number()
    way = line.next_row()
    return line.tower.give(v, way)


def start_end(line, which):
    v = line.next_number()
    piece = line.next_number()
    number = line.next_number()
    if not is_end(v, piece, number):
        return WRONG
    line.ends[which] = End(v, piece, number)
    return 0


def answer_of_tower(line, call):
    if call == TG_START:
        return nothing_told(start_tower(line))
    if call == TG_ENTER:
        return nothing_told(enter_ground(line))
    if call == TG_LEAVE:
        return nothing_told(line.tower.leave(line.next_number()))
    if call == TG_GIVE:
        return nothing_told(give_way(line))
    if call == TG_DROP:
        return nothing_told(line.tower.drop(line.next_number()))
    if call == TG_HEARD:
        return nothing_told(line.tower.heard(line.next_row()))
    if call == TG_TICK:
        return sent_to_vehicles(line.tower.tick())
    if call == TG_AT:
        return nothing_told(line.tower.at(line.next_number()))
    return nothing_told(line.tower.left(line.next_number()))


def answer_of_end(line, call):
    which = line.next_number()
    if call == VG_START:
        return nothing_told(start_end(line, which))
    end = line.ends[which]
    if call == VG_HEARD:
        return end.heard(line.next_row())
    if call == VG_AWAY:
        return end.away()
    if call == VG_TICK:
        return end.tick()
    return nothing_told(end.at())


def answer_of(line):
    call = line.next_number()
    if call < TG_START or call > VG_AT:
        raise ValueError(f"there is no call {call}")
    if call <= TG_LEFT:
        return answer_of_tower(line, call)
    return answer_of_end(line, call)


def answers(calls):
    line = Line(calls)
    given = []
    while line.has_more():
        answer = answer_of(line)
        given.append(len(answer))
        given.extend(answer)
    return given
