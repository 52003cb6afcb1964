"""Where a hand lays fields, and the gaps by which two hands lay them alike."""

from endshare.checks import MOST_GAP, check_fields, check_gaps, check_hand


def laid(fields, hand):
    """Tell (places, room): where the hand lays the fields, and the cells it needs."""
    check_fields(fields)
    check_hand(hand)
    return _placed(fields, hand, [0] * len(fields))


def spread(fields, hand, gaps):
    """Tell what laid tells, with so many free cells ahead of each field."""
    check_fields(fields)
    check_hand(hand)
    check_gaps(fields, gaps)
    return _placed(fields, hand, gaps)


def filled(fields, one, other):
    """Tell the least gaps by which both hands lay all fields at the same places."""
    check_fields(fields)
    check_hand(one)
    check_hand(other)
    best = {0: (0, [])}
    for _, size in fields:
        best = _best_behind(best, size, step_of(size, one), step_of(size, other))
    _, gaps = min(best.values())
    return gaps


def step_of(size, hand):
    """Tell the step of a field of this size: the hand lays it at multiples of it."""
    _, align, _, _ = hand
    return min(size, align)


def first_multiple(start, step):
    """Tell the first multiple of the step from the start on."""
    return (start + step - 1) // step * step


def _placed(fields, hand, gaps):
    places = []
    end = 0
    greatest = 1
    for (_, size), gap in zip(fields, gaps):
        step = step_of(size, hand)
        place = first_multiple(end + gap, step)
        places.append(place)
        end = place + size
        greatest = max(greatest, step)
    return places, first_multiple(end, greatest)


def _best_behind(best, size, step, other_step):
    """Tell, for each end that a further field may have, the best (sum, gaps) to it.

    What comes behind depends only on where the fields so far end, so one best
    list for each end is enough. The least gap for each field by itself is not:
    a cell left free early may save several behind.
    """
    found = {}
    for end, (total, gaps) in best.items():
        for gap in range(MOST_GAP + 1):
            place = first_multiple(end + gap, step)
            if place != first_multiple(end + gap, other_step):
                continue
            choice = (total + gap, gaps + [gap])
            behind = place + size
            if behind not in found or choice < found[behind]:
                found[behind] = choice
    return found
