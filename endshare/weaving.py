"""What two hands see of one memory, in any weaving of their steps.

A state is a tuple (memory, one, other): the cells, and for each hand the number
of its next step and the cells that a look that is not over has seen so far.
"""

from endshare.deeds import checked_places, plans_of
from endshare.figures import number_in

# All pairs of parts, those of the least sum first, of these the least of the one.
WIDES = ((1, 1), (1, 2), (2, 1), (2, 2), (1, 4), (4, 1), (2, 4), (4, 2), (4, 4))


def played(fields, hands, programs, weaving):
    """Tell (one, other, memory): what looks that are over saw, and the memory."""
    places, room = checked_places(fields, hands, programs)
    plans = plans_of(fields, hands, programs, places)
    state = _first_state(room)
    numbers = ((), ())
    for hand in weaving:
        if _has_step(plans, state, hand):
            state, numbers = _watched(plans, state, numbers, hand)
    return _told(state, numbers)


def ends(fields, hands, programs):
    """Tell all that played tells of weavings by which all is done, rising."""
    places, room = checked_places(fields, hands, programs)
    plans = plans_of(fields, hands, programs, places)
    reached = [(_first_state(room), ((), ()))]
    for _ in range(_steps_in_all(plans)):
        reached = _all_watched(plans, reached)
    return sorted([_told(state, numbers) for state, numbers in reached])


def torn(fields, hands, programs):
    """Tell the first of the shortest weavings that end with a torn look, or None."""
    places, room = checked_places(fields, hands, programs)
    return _first_torn(plans_of(fields, hands, programs, places), room)


def widened(fields, hands, programs):
    """Tell the least parts of both hands by which no look is torn."""
    # The parts of a hand change nothing of where it lays fields.
    places, room = checked_places(fields, hands, programs)
    for wides in WIDES[:-1]:
        wider = [_with_wide(hand, wide) for hand, wide in zip(hands, wides)]
        if _first_torn(plans_of(fields, wider, programs, places), room) is None:
            return wides
    # Untried, because by parts of 4 each field is put and seen as a whole.
    return WIDES[-1]


def _with_wide(hand, wide):
    order, align, _, way = hand
    return order, align, wide, way


def _first_state(room):
    return (0,) * room, (0, ()), (0, ())


def _steps_in_all(plans):
    return sum(len(plan.steps) for plan in plans)


def _has_step(plans, state, hand):
    at, _ = state[hand + 1]
    return at < len(plans[hand].steps)


def _moved(plans, state, hand):
    """Tell the state behind a step, and what a look that is over by it saw, or None."""
    memory, one, other = state
    at, seen = state[hand + 1]
    plan = plans[hand]
    step = plan.steps[at]
    whole = None
    if step.part is not None:
        memory = memory[:step.start] + step.part + memory[step.stop:]
    else:
        part = memory[step.start:step.stop]
        seen = seen + part if plan.upward else part + seen
        if step.last:
            whole, seen = seen, ()
    if hand == 0:
        return (memory, (at + 1, seen), other), whole
    return (memory, one, (at + 1, seen)), whole


def _watched(plans, state, numbers, hand):
    """Tell the state behind a step, and the numbers that looks of each hand saw."""
    behind, seen = _moved(plans, state, hand)
    if seen is None:
        return behind, numbers
    one, other = numbers
    number = number_in(seen, plans[hand].order)
    if hand == 0:
        return behind, (one + (number,), other)
    return behind, (one, other + (number,))


def _all_watched(plans, reached):
    """Tell each (state, numbers) one step behind those that are reached, once."""
    found = {}
    for state, numbers in reached:
        for hand in (0, 1):
            if _has_step(plans, state, hand):
                found[_watched(plans, state, numbers, hand)] = True
    return list(found)


def _told(state, numbers):
    one, other = numbers
    # New lists each time, because whoever has them may change them.
    return list(one), list(other), list(state[0])


def _first_torn(plans, room):
    reached = {_first_state(room): []}
    for _ in range(_steps_in_all(plans)):
        weaving, reached = _torn_behind(plans, reached)
        if weaving is not None:
            return weaving
    return None


def _torn_behind(plans, reached):
    """Tell the first weaving one step longer that ends with a torn look, or None,
    and the states one step behind, each with its first weaving.

    The states are reached by weavings that rise, and the one hand is tried ahead
    of the other: so the first weaving to a state behind is the least to it, and
    these rise, too.
    """
    found = {}
    for state, weaving in reached.items():
        for hand in (0, 1):
            if not _has_step(plans, state, hand):
                continue
            behind, seen = _moved(plans, state, hand)
            if seen is not None and _is_torn(plans, state, hand, seen):
                return weaving + [hand], found
            if behind not in found:
                found[behind] = weaving + [hand]
    return None, found


def _is_torn(plans, state, hand, seen):
    """Tell whether a look, that is over by the next step of the hand, is torn."""
    if not any(seen):
        return False
    at, _ = state[hand + 1]
    name = plans[hand].steps[at].name
    for plan, (done, _) in zip(plans, state[1:]):
        # A put that is begun has a step among those that are done.
        for step in plan.steps[:done]:
            if step.name == name and step.whole == seen:
                return False
    return True
