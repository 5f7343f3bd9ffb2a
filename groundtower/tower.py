"""The tower: it lets vehicles enter and leave, gives them ways, and tells them to go on."""

from groundtower.frames import TO_TOWER, TO_VEHICLE, is_right, make_frame, number_in, piece_in, vehicle_in
from groundtower.limits import BUSY, CROSSED, GARBLED, LAST_NUMBER, LAST_VEHICLE, TICKS_OF_ROUND, WRONG
from groundtower.vehicles import Vehicle, come_clear_after_step, fits, is_on_a_way
from groundtower.ways import is_way, neighbours


class Tower:
    def __init__(self, n, near):
        self.beside = neighbours(n, near)
        self.vehicles = {}
        self.numbers = [0] * (LAST_VEHICLE + 1)
        self.ticks = 0

    def everyone(self):
        return list(self.vehicles.values())

    def others(self, v):
        return [self.vehicles[number] for number in self.vehicles if number != v]

    def enter(self, v, piece):
        if v > LAST_VEHICLE or v in self.vehicles or piece >= len(self.beside):
            return WRONG
        if any([vehicle.holds(piece) for vehicle in self.everyone()]):
            return BUSY
        if is_on_a_way(self.everyone(), piece):
            return CROSSED
        self.vehicles[v] = Vehicle(piece)
        return self.numbers[v]

    def leave(self, v):
        if v not in self.vehicles:
            return WRONG
        vehicle = self.vehicles[v]
        if vehicle.is_under_way() or vehicle.behind is not None:
            return BUSY
        self.vehicles.pop(v)
        return 0

    def give(self, v, way):
        if v not in self.vehicles:
            return WRONG
        vehicle = self.vehicles[v]
        if not is_way(self.beside, vehicle.piece, way):
            return WRONG
        if vehicle.is_under_way():
            return BUSY
        if not fits(way, self.others(v)):
            return CROSSED
        vehicle.way = list(way)
        return 0

    def drop(self, v):
        if v not in self.vehicles:
            return WRONG
        vehicle = self.vehicles[v]
        if not vehicle.is_under_way():
            return BUSY
        if is_on_a_way(self.others(v), vehicle.piece):
            return CROSSED
        vehicle.way = []
        return 0

    def heard(self, frame):
        if not is_right(frame, TO_TOWER):
            return GARBLED
        v = vehicle_in(frame)
        if v not in self.vehicles or self.numbers[v] != number_in(frame):
            return 0
        vehicle = self.vehicles[v]
        if vehicle.behind is None or vehicle.piece != piece_in(frame):
            return 0
        vehicle.behind = None
        return 1

    def at(self, v):
        if v not in self.vehicles:
            return WRONG
        return self.vehicles[v].piece

    def left(self, v):
        if v not in self.vehicles:
            return WRONG
        return len(self.vehicles[v].way)

    # Gives back the vehicles that are told to go, each with its frame.
    def tick(self):
        self.ticks += 1
        told = []
        for v in range(LAST_VEHICLE + 1):
            if self.numbers[v] < LAST_NUMBER and self.may_go_on(v):
                self.let_go_on(v)
                told.append((v, self.frame_to(v)))
            elif self.is_told_again(v):
                told.append((v, self.frame_to(v)))
        return told

    def may_go_on(self, v):
        if v not in self.vehicles:
            return False
        vehicle = self.vehicles[v]
        if not vehicle.is_under_way() or vehicle.behind is not None:
            return False
        if any([other.holds(vehicle.way[0]) for other in self.others(v)]):
            return False
        return come_clear_after_step(self.vehicles, v)

    def let_go_on(self, v):
        vehicle = self.vehicles[v]
        vehicle.go_on()
        self.numbers[v] += 1

    def is_told_again(self, v):
        if v not in self.vehicles or self.ticks % TICKS_OF_ROUND != 0:
            return False
        vehicle = self.vehicles[v]
        return vehicle.behind is not None

    def frame_to(self, v):
        vehicle = self.vehicles[v]
        return make_frame(TO_VEHICLE, v, vehicle.piece, self.numbers[v])
