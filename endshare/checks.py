"""What is refused before anything is told of fields, hands and gaps."""

from endshare.errors import BadFields, BadHand, BadNumber

LETTERS = "abcdefghijklmnopqrstuvwxyz"
LONGEST_NAME = 6
MOST_FIELDS = 6
SIZES = (1, 2, 4)
ORDERS = ("great", "small")
WAYS = ("up", "down")
MOST_GAP = 9


def is_whole(number):
    # To Python True is 1 and False is 0, but here they are no numbers.
    return isinstance(number, int) and not isinstance(number, bool)


def is_size(number):
    return is_whole(number) and number in SIZES


def is_name(name):
    # Letter by letter, because islower() also takes letters beyond a to z.
    return 1 <= len(name) <= LONGEST_NAME and all(sign in LETTERS for sign in name)


def is_gap(number):
    return is_whole(number) and 0 <= number <= MOST_GAP


def check_fields(fields):
    if not fields:
        raise BadFields(0)
    names = set()
    for number, (name, size) in enumerate(fields):
        if number >= MOST_FIELDS or not is_name(name) or name in names or not is_size(size):
            raise BadFields(number)
        names.add(name)


def check_hand(hand):
    order, align, wide, way = hand
    if order not in ORDERS:
        raise BadHand("order")
    if not is_size(align):
        raise BadHand("align")
    if not is_size(wide):
        raise BadHand("wide")
    if way not in WAYS:
        raise BadHand("way")


def check_gaps(fields, gaps):
    """Refuse gaps that are not one number from 0 to 9 for each field."""
    if len(gaps) != len(fields) or not all(is_gap(gap) for gap in gaps):
        raise BadNumber("the gaps are not a number from 0 to 9 for each field")
