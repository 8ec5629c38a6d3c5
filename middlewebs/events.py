"""Events with causes and conflicts, and their states."""

from middlewebs.bits import all_reached, bits_of, has_place, places_of
from middlewebs.checks import MOST_EVENTS, MOST_STATES, are_ascending, is_integer_within, is_pair, is_sequence
from middlewebs.errors import InvalidEvents, InvalidState, TooLarge, Undefined


def _is_cause(many, value):
    """Whether the value is a pair of unlike events."""
    return is_pair(value) and all([is_integer_within(event, 0, many - 1) for event in value]) and value[0] != value[1]


def _is_conflict(many, value):
    """Whether the value is a pair of ascending events."""
    return is_pair(value) and are_ascending(value, many)


def _check_pairs(part, pairs, is_right, many):
    """Raise InvalidEvents with the part's name unless these are ascending pairs, each of them right."""
    if not is_sequence(pairs):
        raise InvalidEvents(part, 0)
    for place, pair in enumerate(pairs):
        if not is_right(many, pair) or (place > 0 and pair <= pairs[place - 1]):
            raise InvalidEvents(part, place)


def _all_causes(many, causes):
    """For each event the bits of all events that lead to it by causes, in one or more steps."""
    rows = [0 for _ in range(many)]
    for cause, event in causes:
        rows[event] = rows[event] | 1 << cause
    return all_reached(rows)


def _all_conflicts(many, conflicts):
    """For each event the bits of the events with which it is in conflict."""
    rows = [0 for _ in range(many)]
    for one, other in conflicts:
        rows[one] = rows[one] | 1 << other
        rows[other] = rows[other] | 1 << one
    return tuple(rows)


class Events:
    """Events with causes and conflicts.

    For each event needs has the bits of all events that lead to it by causes, also by way of others, and against those
    of the events with which it is in conflict.
    """

    def __init__(self, many, causes, conflicts):
        if not is_integer_within(many, 0, MOST_EVENTS):
            raise InvalidEvents("many", 0)
        _check_pairs("causes", causes, _is_cause, many)
        needs = _all_causes(many, causes)
        if any([has_place(bits, event) for event, bits in enumerate(needs)]):
            raise InvalidEvents("cycle", 0)
        _check_pairs("conflicts", conflicts, _is_conflict, many)
        self.many = many
        self.causes = tuple(causes)
        self.conflicts = tuple(conflicts)
        self.needs = needs
        self.against = _all_conflicts(many, conflicts)

    def __eq__(self, other):
        if not isinstance(other, Events):
            return False
        return self.many == other.many and self.causes == other.causes and self.conflicts == other.conflicts


def is_state(events, value):
    """Whether the value is an ascending tuple of events with all of their causes and without conflicts."""
    if not are_ascending(value, events.many):
        return False
    bits = bits_of(value)
    return all([events.needs[event] & ~bits == 0 and events.against[event] & bits == 0 for event in value])


def states(events):
    """The tuple of all states, those with fewer events first and those with as many ascending."""
    found = []
    level = [0]
    while len(level) > 0:
        if len(found) + len(level) > MOST_STATES:
            raise TooLarge("states")
        found.extend(sorted([places_of(bits) for bits in level]))
        # Without the last of its events to come about a state is a state, so none is missed.
        level = sorted({bits | 1 << event for bits in level for event in range(events.many)
                        if _can_come(events, bits, event)})
    return tuple(found)


def impossible(events):
    """The ascending tuple of the events that are in no state."""
    return tuple([event for event in range(events.many) if _is_impossible(events, event)])


def past_of(events, event):
    """The bits of the event and of all that lead to it: the least that a state with this event has."""
    return events.needs[event] | 1 << event


def foes_of(events, event):
    """The bits of the events that are in conflict with this one or with one that leads to it."""
    foes = 0
    for earlier in places_of(past_of(events, event)):
        foes = foes | events.against[earlier]
    return foes


def merged(events, one, other):
    """The state of the events that are in at least one of two states."""
    _check_states(events, (one, other))
    both = tuple(sorted(set(one + other)))
    if not is_state(events, both):
        raise Undefined("state")
    return both


def conflict(events, one, other):
    """The first pair of an event of one state and one of the other that are in conflict."""
    _check_states(events, (one, other))
    for a in one:
        for b in other:
            if has_place(events.against[a], b):
                return (a, b)
    raise Undefined("conflict")


def _check_states(events, values):
    """Raise InvalidState with the first of the values that is no state."""
    for value in values:
        if not is_state(events, value):
            raise InvalidState(value)


def _can_come(events, bits, event):
    """Whether a state with the event besides these ones is a state, and it is none of them."""
    if has_place(bits, event):
        return False
    return events.needs[event] & ~bits == 0 and events.against[event] & bits == 0


def _is_impossible(events, event):
    """Whether the events that every state with this one has are not without conflicts."""
    past = past_of(events, event)
    return any([events.against[earlier] & past != 0 for earlier in places_of(past)])
