"""Whole answers: the number, how many things are told, and these."""

SENT_TO_VEHICLE = 0
SENT_TO_TOWER = 1
TOLD_TO_GO = 2


def nothing_told(number):
    return [number, 0]


# sent holds vehicles, each with the frame to it.
def sent_to_vehicles(sent):
    answer = [0, len(sent)]
    for v, frame in sent:
        answer.extend([SENT_TO_VEHICLE, v] + frame)
    return answer


def sent_to_tower(frame):
    return [0, 1, SENT_TO_TOWER] + frame


def told_to_go(piece):
    return [1, 1, TOLD_TO_GO, piece]
