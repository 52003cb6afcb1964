"""What is refused before anything is told."""

from endshare.errors import BadDeed, BadFields, BadHand, BadMemory, BadNumber
from endshare.figures import LIMITS

LETTERS = "abcdefghijklmnopqrstuvwxyz"
LONGEST_NAME = 6
MOST_FIELDS = 6
MOST_DEEDS = 3
SIZES = (1, 2, 4)
ORDERS = ("great", "small")
WAYS = ("up", "down")
MOST_GAP = 9


def is_whole(number):
    # To Python True is 1 and False is 0, but here they are no numbers.
    return isinstance(number, int) and not isinstance(number, bool)


def is_size(number):
    return is_whole(number) and number in SIZES


def are_small_letters(text):
    # Letter by letter, because islower() also takes letters beyond a to z.
    return len(text) >= 1 and all(sign in LETTERS for sign in text)


def is_name(name):
    return len(name) <= LONGEST_NAME and are_small_letters(name)


def is_gap(number):
    return is_whole(number) and 0 <= number <= MOST_GAP


def can_have(size, number):
    """Tell whether so many cells can have this number."""
    return is_whole(number) and 0 <= number < LIMITS[size]


def check_fields(fields):
    if not fields:
        raise BadFields(0)
    names = set()
    for number, (name, size) in enumerate(fields):
        if number >= MOST_FIELDS or not is_name(name) or name in names or not is_size(size):
            raise BadFields(number)
        names.add(name)


def check_hand(hand):
    order, align, wide, way = hand
    if order not in ORDERS:
        raise BadHand("order")
    if not is_size(align):
        raise BadHand("align")
    if not is_size(wide):
        raise BadHand("wide")
    if way not in WAYS:
        raise BadHand("way")


def check_gaps(fields, gaps):
    """Refuse gaps that are not one number from 0 to 9 for each field."""
    if len(gaps) != len(fields) or not all(is_gap(gap) for gap in gaps):
        raise BadNumber("the gaps are not a number from 0 to 9 for each field")


def check_memory(memory, room):
    """Refuse a memory that is not one number from 0 to 9 for each cell of the room."""
    if len(memory) != room:
        raise BadMemory(room)
    for at, cell in enumerate(memory):
        if not can_have(1, cell):
            raise BadMemory(at)


def check_programs(fields, programs):
    """Refuse the first deed that cannot be, those of hand 0 first."""
    sizes = dict(fields)
    for hand, program in enumerate(programs):
        for number, deed in enumerate(program):
            if number >= MOST_DEEDS or not _is_deed(deed, sizes):
                raise BadDeed(hand, number)


def _is_deed(deed, sizes):
    if len(deed) < 2 or deed[1] not in sizes:
        return False
    if deed[0] == "look":
        return len(deed) == 2
    return deed[0] == "put" and len(deed) == 3 and can_have(sizes[deed[1]], deed[2])
