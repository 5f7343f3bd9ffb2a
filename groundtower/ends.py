"""A vehicle's end: it tells its vehicle where to go, and the tower where it stands."""

from groundtower.frames import TO_TOWER, TO_VEHICLE, is_right, make_frame, number_in, piece_in, vehicle_in
from groundtower.limits import BUSY, GARBLED, LAST_NUMBER, LAST_VEHICLE, MOST_PIECES, TICKS_OF_ROUND
from groundtower.told import nothing_told, sent_to_tower, told_to_go


def is_end(v, piece, number):
    return v <= LAST_VEHICLE and piece < MOST_PIECES and number <= LAST_NUMBER


# Its calls, but for at, give back whole answers: most of them tell something.
class End:
    def __init__(self, v, piece, number):
        self.v = v
        self.piece = piece
        self.number = number
        self.going = False
        self.ticks = 0

    def heard(self, frame):
        if not is_right(frame, TO_VEHICLE) or vehicle_in(frame) != self.v:
            return nothing_told(GARBLED)
        # While it is going it can't say yet that it has left anything; the tower will ask again.
        if self.going:
            return nothing_told(0)
        if number_in(frame) == self.number + 1:
            return self.go_there(frame)
        # Told again what was done already: what it sent then was lost, or is late.
        if number_in(frame) == self.number:
            return sent_to_tower(self.standing_frame())
        return nothing_told(0)

    def go_there(self, frame):
        self.number = number_in(frame)
        self.piece = piece_in(frame)
        self.going = True
        return told_to_go(self.piece)

    def away(self):
        if not self.going:
            return nothing_told(BUSY)
        self.going = False
        return sent_to_tower(self.standing_frame())

    def tick(self):
        self.ticks += 1
        # With the number 0 it was never told to go, so there is nothing that the tower waits for.
        if self.going or self.number == 0 or self.ticks % TICKS_OF_ROUND != 0:
            return nothing_told(0)
        return sent_to_tower(self.standing_frame())

    # A piece is below 256, so one number tells both where and whether it is still going there.
    def at(self):
        return self.piece + MOST_PIECES if self.going else self.piece

    def standing_frame(self):
        return make_frame(TO_TOWER, self.v, self.piece, self.number)
