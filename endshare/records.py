"""Numbers put in the fields of a memory, looked at, and led over to another hand."""

from endshare.checks import can_have, check_memory
from endshare.errors import BadNumber, NoField
from endshare.figures import cells_of, number_in
from endshare.layouts import laid


def put(fields, hand, memory, name, number):
    """Tell the memory with the number put in the field of this name."""
    place, size = _field_in(fields, hand, memory, name)
    if not can_have(size, number):
        raise BadNumber(f"a field of {size} cells cannot have this number")
    order, _, _, _ = hand
    return memory[:place] + cells_of(number, size, order) + memory[place + size:]


def look(fields, hand, memory, name):
    """Tell the number of the field of this name."""
    place, size = _field_in(fields, hand, memory, name)
    order, _, _, _ = hand
    return number_in(memory[place:place + size], order)


def led(fields, one, other, memory):
    """Tell the memory, laid by the other hand, in which it reads the same numbers."""
    places, room = laid(fields, one)
    to_places, to_room = laid(fields, other)
    # Behind both, because they refuse fields and hands, which go ahead.
    check_memory(memory, room)
    order, _, _, _ = one
    to_order, _, _, _ = other
    cells = [0] * to_room
    for (_, size), place, to_place in zip(fields, places, to_places):
        number = number_in(memory[place:place + size], order)
        cells[to_place:to_place + size] = cells_of(number, size, to_order)
    return cells


def unlike(fields, one, other):
    """Tell (name, memory): the first field read unlike, and a memory for it, or None."""
    places, room = laid(fields, one)
    other_places, other_room = laid(fields, other)
    for (name, size), place, other_place in zip(fields, places, other_places):
        cells = _figure_cells(place, size, one)
        other_cells = _figure_cells(other_place, size, other)
        for cell, other_cell in zip(cells, other_cells):
            if cell != other_cell:
                # The one hand reads 1 for this figure, and the other reads 0.
                memory = [0] * max(room, other_room)
                memory[cell] = 1
                return name, memory
    return None


def _field_in(fields, hand, memory, name):
    """Tell (place, size) of the field of this name, in a memory laid by the hand."""
    places, room = laid(fields, hand)
    check_memory(memory, room)
    for (told, size), place in zip(fields, places):
        if told == name:
            return place, size
    raise NoField("no field has this name")


def _figure_cells(place, size, hand):
    """Tell the cells of a field at this place, from that of its first figure on."""
    order, _, _, _ = hand
    cells = list(range(place, place + size))
    return cells if order == "great" else cells[::-1]
