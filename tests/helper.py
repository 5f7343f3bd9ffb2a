"""What the tests share: calls written as lists, answers read back, and the document's words told once more.

The Reference here follows the document's definitions word by word, without thought for speed, and shares no code
with the program: its check runs the other way about, and its "come clear" is the recursion that the document tells.
"""

from groundtower.ground import answers

TOP = 4294967295


def start(n, pairs=()):
    row = [number for pair in pairs for number in pair]
    return [0, n, len(row)] + row


def enter(v, piece):
    return [1, v, piece]


def leave(v):
    return [2, v]


def give(v, way):
    return [3, v, len(way)] + list(way)


def drop(v):
    return [4, v]


def heard(frame):
    return [5, len(frame)] + list(frame)


def tick():
    return [6]


def at(v):
    return [7, v]


def left(v):
    return [8, v]


def end_start(end, v, piece, number):
    return [9, end, v, piece, number]


def end_heard(end, frame):
    return [10, end, len(frame)] + list(frame)


def end_away(end):
    return [11, end]


def end_tick(end):
    return [12, end]


def end_at(end):
    return [13, end]


def chain(n):
    """The pairs of n pieces in a row."""
    return [(k, k + 1) for k in range(n - 1)]


def turned(number, bits):
    return int(format(number, "0%db" % bits)[::-1], 2)


def crc32c(head):
    """CRC-32C from the high bit, its bytes and its result turned about."""
    rest = 0xFFFFFFFF
    for byte in head:
        rest ^= turned(byte, 8) << 24
        for _ in range(8):
            rest = (rest << 1) ^ (0x11EDC6F41 if rest >> 31 else 0)
    return turned(rest, 32) ^ 0xFFFFFFFF


def with_check(head):
    return list(head) + list(crc32c(head).to_bytes(4, "little"))


def frame(kind, v, piece, number):
    return with_check([kind, v, piece, 0] + list(number.to_bytes(4, "little")) + [0] * 4)


def stands(v, piece, number):
    """The call that the tower hears v's frame of kind 2."""
    return heard(frame(2, v, piece, number))


def go(v, piece, number):
    """What a tick tells: the tower sends v a frame of kind 1."""
    return [0, v] + frame(1, v, piece, number)


def told(*things):
    """A tower's tick's whole answer."""
    return [0, len(things)] + [number for thing in things for number in thing]


def sent(v, piece, number):
    """The whole answer of an end that sends the tower a frame of kind 2."""
    return [0, 1, 1] + frame(2, v, piece, number)


def goes(piece):
    """The whole answer of an end that tells its vehicle to go to a piece."""
    return [1, 1, 2, piece]


def flat(calls):
    return [number for call in calls for number in call]


def run(*calls):
    """The answers to the calls, a list each."""
    row = answers(flat(calls))
    split = []
    place = 0
    while place < len(row):
        split.append(row[place + 1:place + 1 + row[place]])
        place += 1 + row[place]
    assert place == len(row)
    return split


def last(*calls):
    return run(*calls)[-1]


def number_of(*calls):
    """The number that the last call answers, it being one that tells nothing."""
    answer = last(*calls)
    assert len(answer) == 2 and answer[1] == 0, answer
    return answer[0]


def come_clear(state):
    """state: for each vehicle its piece and its way. Tries each order, as the document's words do."""
    seen = {}

    def clear(arrived):
        if arrived not in seen:
            seen[arrived] = clear_anew(arrived)
        return seen[arrived]

    def clear_anew(arrived):
        now = {v: ((way or (piece,))[-1], ()) if v in arrived else (piece, way) for v, (piece, way) in state.items()}
        under_way = [v for v in now if now[v][1]]
        if not under_way:
            return True
        for v in under_way:
            free = all(now[u][0] not in now[v][1] for u in now if u != v)
            if free and clear(arrived | {v}):
                return True
        return False

    return clear(frozenset())


def come_clear_soon(state):
    """The same, for many vehicles: whoever can come to its goal does, in whatever order."""
    stands = {v: piece for v, (piece, way) in state.items()}
    waiting = {v: set(way) for v, (piece, way) in state.items() if way}
    while waiting:
        free = [v for v in waiting if waiting[v].isdisjoint(stands.values())]
        if not free:
            return False
        for v in free:
            stands[v] = state[v][1][-1]
            del waiting[v]
    return True


def right(given, kind):
    """Whether a frame is right for whom it's come to."""
    number = int.from_bytes(bytes(given[4:8]), "little")
    zeros = given[3] == 0 and given[8:12] == [0] * 4
    return given == with_check(given[:12]) and given[0] == kind and given[1] <= 63 and number != 0 and zeros


class ReferenceEnd:
    """A vehicle's end by the document's words."""

    def __init__(self, v, piece, number):
        self.v, self.piece, self.number = v, piece, number
        self.going = False
        self.ticks = 0

    def vg_heard(self, given):
        number = int.from_bytes(bytes(given[4:8]), "little")
        if not right(given, 1) or given[1] != self.v:
            return -71
        if number == self.number + 1 and not self.going:
            self.number, self.piece, self.going = number, given[2], True
            return goes(self.piece)
        if number == self.number and not self.going:
            return sent(self.v, self.piece, self.number)
        return 0

    def vg_away(self):
        if not self.going:
            return -2
        self.going = False
        return sent(self.v, self.piece, self.number)

    def vg_tick(self):
        self.ticks += 1
        if not self.going and self.number != 0 and self.ticks % 10 == 0:
            return sent(self.v, self.piece, self.number)
        return 0

    def vg_at(self):
        return 256 + self.piece if self.going else self.piece


class Reference:
    """The tower and the ends by the document's words."""

    NAMES = """tg_start tg_enter tg_leave tg_give tg_drop tg_heard tg_tick tg_at tg_left
        vg_start vg_heard vg_away vg_tick vg_at""".split()

    def __init__(self, clear=come_clear):
        self.clear = clear
        self.held_back = 0
        self.ends = {}

    def call(self, call):
        whose = self.ends[call[1]] if call[0] > 9 else self
        answer = getattr(whose, self.NAMES[call[0]])(*self.arguments(call))
        return answer if isinstance(answer, list) else [answer, 0]

    @staticmethod
    def arguments(call):
        if call[0] in (0, 3):
            return call[1], call[3:]
        if call[0] in (5, 10):
            return [call[-16:]]
        return call[2:] if call[0] > 10 else call[1:]

    def vg_start(self, end, v, piece, number):
        if v > 63 or piece > 255 or number > 2147483647:
            return -22
        self.ends[end] = ReferenceEnd(v, piece, number)
        return 0

    def tg_at(self, v):
        return self.at[v] if v in self.at else -22

    def tg_left(self, v):
        return len(self.way[v]) if v in self.at else -22

    def goal(self, v):
        return self.way[v][-1] if self.way[v] else self.at[v]

    def tg_start(self, n, near):
        if not 1 <= n <= 256 or len(near) > 2048 or any(piece >= n for piece in near):
            return -22
        self.n = n
        self.near = {frozenset(near[k:k + 2]) for k in range(0, len(near), 2)}
        self.at, self.behind, self.way = {}, {}, {}
        self.number = [0] * 64
        self.ticks = 0
        return 0

    def tg_enter(self, v, piece):
        if v > 63 or v in self.at or piece >= self.n:
            return -22
        if piece in self.at.values() or piece in self.behind.values():
            return -2
        if any(piece in way for way in self.way.values()):
            return -11
        self.at[v], self.behind[v], self.way[v] = piece, None, []
        return self.number[v]

    def tg_leave(self, v):
        if v not in self.at:
            return -22
        if self.way[v] or self.behind[v] is not None:
            return -2
        for kept in (self.at, self.behind, self.way):
            del kept[v]
        return 0

    def tg_give(self, v, way):
        if v not in self.at or not 1 <= len(way) <= 64:
            return -22
        whole = [self.at[v]] + way
        if len(set(whole)) < len(whole) or any(frozenset(whole[k:k + 2]) not in self.near for k in range(len(way))):
            return -22
        if self.way[v]:
            return -2
        others = [u for u in self.at if u != v]
        if any(self.goal(u) in way for u in others) or any(way[-1] in self.way[u] for u in others):
            return -11
        self.way[v] = list(way)
        return 0

    def tg_drop(self, v):
        if v not in self.at:
            return -22
        if not self.way[v]:
            return -2
        if any(self.at[v] in self.way[u] for u in self.at if u != v):
            return -11
        self.way[v] = []
        return 0

    def tg_heard(self, given):
        number = int.from_bytes(bytes(given[4:8]), "little")
        if not right(given, 2):
            return -71
        v = given[1]
        if v in self.at and self.behind[v] is not None and self.at[v] == given[2] and self.number[v] == number:
            self.behind[v] = None
            return 1
        return 0

    def may_go_on(self, v):
        if not self.way[v] or self.behind[v] is not None:
            return False
        first = self.way[v][0]
        if any(first in (self.at[u], self.behind[u]) for u in self.at if u != v):
            return False
        state = {u: (self.at[u], tuple(self.way[u])) for u in self.at}
        state[v] = (first, tuple(self.way[v][1:]))
        clear = self.clear(state)
        self.held_back += not clear
        return clear

    def tg_tick(self):
        self.ticks += 1
        things = []
        for v in sorted(self.at):
            if self.number[v] < 2147483647 and self.may_go_on(v):
                self.behind[v], self.at[v], self.way[v] = self.at[v], self.way[v][0], self.way[v][1:]
                self.number[v] += 1
                things.append(go(v, self.at[v], self.number[v]))
            elif self.behind[v] is not None and self.ticks % 10 == 0:
                things.append(go(v, self.at[v], self.number[v]))
        return told(*things)
