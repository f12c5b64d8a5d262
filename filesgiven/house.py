"""The calls on one house of files, and their answers."""

from filesgiven.packets import House

BEGIN = 0


def answers(calls):
    """For each call how many numbers are answered, then these."""
    told = []
    place = 0
    house = None
    while place < len(calls):
        now = calls[place + 1]
        if calls[place] == BEGIN:
            house = House(now)
            told.append(0)
            place += 2
            continue
        start = place + 3
        place = start + calls[place + 2]
        answer = house.answer(now, calls[start:place])
        told.extend([len(answer) + 1, len(answer)])
        told.extend(answer)
    return told
