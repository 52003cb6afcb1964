"""The deeds of two hands, taken apart into steps."""

from endshare.checks import check_programs
from endshare.figures import cells_of
from endshare.layouts import filled, spread


class Step:
    """One part of a deed: what is done at once to the cells from start to stop."""

    def __init__(self, name, start, stop, whole, part, last):
        self.name = name
        self.start = start
        self.stop = stop
        # All cells that the put puts, and those of this part; None if it is a look.
        self.whole = whole
        self.part = part
        self.last = last


class Plan:
    """The steps of a hand, and how it joins and reads the cells that it sees."""

    def __init__(self, hand, steps):
        order, _, _, way = hand
        self.order = order
        self.upward = way == "up"
        self.steps = steps


def checked_places(fields, hands, programs):
    """Refuse what cannot be, and tell (places, room) of the memory of both hands."""
    one, other = hands
    gaps = filled(fields, one, other)
    check_programs(fields, programs)
    return spread(fields, one, gaps)


def plans_of(fields, hands, programs, places):
    """Tell the plan of each hand, for a memory with the fields at these places."""
    found = {name: (place, size) for (name, size), place in zip(fields, places)}
    plans = []
    for hand, program in zip(hands, programs):
        steps = []
        for deed in program:
            place, size = found[deed[1]]
            steps.extend(_steps(deed, place, size, hand))
        plans.append(Plan(hand, steps))
    return plans


def _steps(deed, place, size, hand):
    order, _, _, _ = hand
    parts = _parts(size, hand)
    steps = []
    for number, (start, stop) in enumerate(parts):
        whole = part = None
        if deed[0] == "put":
            whole = tuple(cells_of(deed[2], size, order))
            part = whole[start:stop]
        last = number == len(parts) - 1
        steps.append(Step(deed[1], place + start, place + stop, whole, part, last))
    return steps


def _parts(size, hand):
    """Tell (start, stop) of each part within a field, the first that is done first."""
    _, _, wide, way = hand
    many = min(wide, size)
    parts = [(start, start + many) for start in range(0, size, many)]
    return parts if way == "up" else parts[::-1]
