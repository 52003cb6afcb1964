"""A plain model of points 9 to 12, which tries every weaving, to test the program against.

Of the program it uses only where fields lie, which test_layouts.py tests by itself.
"""

from itertools import combinations, product

from endshare.layouts import filled, spread


def cells_as_read(cells, order):
    """Tell the number as text arithmetic does: figure by figure, the first one first."""
    figures = [str(cell) for cell in cells]
    if order == "small":
        figures.reverse()
    return int("".join(figures))


def cells_as_put(number, size, order):
    figures = [int(figure) for figure in str(number).zfill(size)]
    if order == "small":
        figures.reverse()
    return figures


def parts_of(place, size, hand):
    """Tell the cells of each part, as lists of places in the memory."""
    _, _, wide, way = hand
    cells = list(range(place, place + size))
    parts = []
    while cells:
        if way == "up":
            parts.append(cells[:wide])
            cells = cells[wide:]
        else:
            parts.append(cells[-wide:])
            cells = cells[:-wide]
    return parts


class Both:
    """One memory, and both hands with their deeds, done step by step."""

    def __init__(self, fields, hands, programs):
        gaps = filled(fields, hands[0], hands[1])
        places, room = spread(fields, hands[0], gaps)
        self.fields = {name: (place, size) for (name, size), place in zip(fields, places)}
        self.hands = hands
        self.memory = [0] * room
        self.todo = [
            [
                (deed, number, cells, number == len(parts) - 1)
                for deed in program
                for parts in [parts_of(*self.fields[deed[1]], hand)]
                for number, cells in enumerate(parts)
            ]
            for hand, program in zip(hands, programs)
        ]
        self.saw = [{}, {}]
        self.numbers = [[], []]
        # All cells that a field had as a whole: at first, then by each put begun.
        self.wholes = {name: [[0] * size] for name, (_, size) in self.fields.items()}
        self.torn = False

    def step(self, hand):
        """Do a step, and tell whether there was one."""
        if not self.todo[hand]:
            return False
        deed, number, cells, last = self.todo[hand].pop(0)
        place, size = self.fields[deed[1]]
        order = self.hands[hand][0]
        if deed[0] == "put":
            whole = cells_as_put(deed[2], size, order)
            if number == 0:
                self.wholes[deed[1]].append(whole)
            for cell in cells:
                self.memory[cell] = whole[cell - place]
            return True
        for cell in cells:
            self.saw[hand][cell] = self.memory[cell]
        if last:
            seen = [self.saw[hand][cell] for cell in range(place, place + size)]
            self.saw[hand] = {}
            self.numbers[hand].append(cells_as_read(seen, order))
            self.torn = self.torn or seen not in self.wholes[deed[1]]
        return True

    def told(self):
        return (self.numbers[0], self.numbers[1], self.memory)


def weavings(fields, hands, programs):
    """Tell all weavings by which all is done, without a step that is nothing."""
    one, other = (len(todo) for todo in Both(fields, hands, programs).todo)
    for ones in combinations(range(one + other), other):
        yield [1 if number in ones else 0 for number in range(one + other)]


def naive_played(fields, hands, programs, weaving):
    both = Both(fields, hands, programs)
    for hand in weaving:
        both.step(hand)
    return both.told()


def naive_ends(fields, hands, programs):
    found = []
    for weaving in weavings(fields, hands, programs):
        told = naive_played(fields, hands, programs, weaving)
        if told not in found:
            found.append(told)
    return sorted(found)


def naive_torn(fields, hands, programs):
    found = []
    for weaving in weavings(fields, hands, programs):
        both = Both(fields, hands, programs)
        for number, hand in enumerate(weaving):
            both.step(hand)
            if both.torn:
                found.append(weaving[:number + 1])
                break
    return min(found, key=lambda weaving: (len(weaving), weaving), default=None)


def naive_widened(fields, hands, programs):
    found = []
    for wides in product((1, 2, 4), repeat=2):
        wider = tuple(
            (order, align, wide, way) for (order, align, _, way), wide in zip(hands, wides)
        )
        if naive_torn(fields, wider, programs) is None:
            found.append(wides)
    return min(found, key=lambda wides: (sum(wides), wides))
