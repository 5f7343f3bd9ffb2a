"""Vehicles as the tower knows them, and whether they get out of one another's way."""


class Vehicle:
    def __init__(self, piece):
        self.piece = piece
        self.behind = None
        self.way = []

    def is_under_way(self):
        return len(self.way) > 0

    def goal(self):
        return self.way[-1] if self.is_under_way() else self.piece

    def holds(self, piece):
        return self.piece == piece or self.behind == piece

    def go_on(self):
        self.behind = self.piece
        self.piece = self.way[0]
        self.way = self.way[1:]


def is_on_a_way(vehicles, piece):
    return any([piece in vehicle.way for vehicle in vehicles])


def fits(way, others):
    for other in others:
        if other.goal() in way:
            return False
    return not is_on_a_way(others, way[-1])


# Whether the vehicles come clear once v stands on the first piece of its way.
# They came clear before: whoever enters, gets a way or drops one stands on nobody's way then. A goal lies on nobody
# else's way either, so one that has come to its goal hinders nobody, and vehicles fail to come clear only if some
# wait for one another in a ring. A ring that the step makes goes through v: one for whom v waits, straight or
# through others, has v's new piece on its way. So it is enough to look at those, which is quick.
def come_clear_after_step(vehicles, v):
    new_piece = vehicles[v].way[0]
    standing = {}
    for number in vehicles:
        standing[vehicles[number].piece] = number
    found = {v: True}
    waited_for = [v]
    place = 0
    while place < len(waited_for):
        waiting = vehicles[waited_for[place]]
        for piece in waiting.way:
            ahead = standing.get(piece)
            if ahead is not None and ahead not in found:
                if new_piece in vehicles[ahead].way:
                    return False
                found[ahead] = True
                waited_for.append(ahead)
        place += 1
    return True
