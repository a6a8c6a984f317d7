"""What happens to makers: how they stand at the beginning, and behind events."""

from manymakers.checks import is_between
from manymakers.errors import InvalidEvent, InvalidHistory, InvalidStanding, UnknownMaker

# Stands where a reading would, if no last number is known or no reading is saved.
NO_READING = -1

# How many parts an event has, the word itself counted.
EVENT_PARTS = {"clock": 3, "restart": 2, "give": 2}


def begin(setup):
    """Return the standing at the beginning."""
    return ((0, NO_READING, 0, NO_READING),) * len(setup)


def after(setup, standing, event):
    """Return the standing behind an event, and the number that was given, or None."""
    if not is_standing(setup, standing):
        raise InvalidStanding("the standing does not fit the set-up")
    check_event(setup, standing, event)
    return step(setup, standing, event)


def run(setup, events):
    """Return the standing behind a history, and the list of what was given at each give."""
    standing = begin(setup)
    given = []
    for at, event in enumerate(events):
        try:
            check_event(setup, standing, event)
        except (InvalidEvent, UnknownMaker):
            raise InvalidHistory(at) from None
        standing, number = step(setup, standing, event)
        if event[0] == "give":
            given.append(number)
    return standing, given


def is_standing(setup, standing):
    """Tell whether something is a standing of the set-up, even one that cannot come about."""
    if not isinstance(standing, tuple) or len(standing) != len(setup):
        return False
    return all([_is_state(setup, plan, state) for plan, state in zip(setup.plans, standing)])


def _is_state(setup, plan, state):
    if not isinstance(state, tuple) or len(state) != 4:
        return False
    reading, last, counter, saved = state
    most_counter = 0 if last == NO_READING else setup.limit
    most_saved = NO_READING if plan.on_restart == "forget" else setup.top
    return (
        is_between(reading, 0, setup.top)
        and is_between(last, NO_READING, setup.top)
        and is_between(counter, 0, most_counter)
        and is_between(saved, NO_READING, most_saved)
    )


def check_event(setup, standing, event):
    """Raise an error if an event cannot be in a standing."""
    if not _is_formed(event):
        raise InvalidEvent("an event has a known word and the parts that belong to it")
    maker = event[1]
    if not is_between(maker, 0, len(setup) - 1):
        raise UnknownMaker("there is no such maker")
    if event[0] == "clock" and not _can_jump(setup, standing[maker][0], event[2]):
        raise InvalidEvent("the clock cannot jump there")


def _is_formed(event):
    if not isinstance(event, tuple) or len(event) == 0 or not isinstance(event[0], str):
        return False
    return EVENT_PARTS.get(event[0]) == len(event)


def _can_jump(setup, present, reading):
    low = max(0, present - setup.back)
    high = min(setup.top, present + setup.ahead)
    return is_between(reading, low, high) and reading != present


def step(setup, standing, event):
    """Return what after returns, for a standing and an event that can be."""
    maker = event[1]
    state, number = step_alone(setup, standing[maker], event)
    return with_state(standing, maker, state), number


def with_state(standing, maker, state):
    """Return a standing with another tuple for one of the makers."""
    return standing[:maker] + (state,) + standing[maker + 1:]


def events_alone(setup, maker, state):
    """Return the ascending list of a maker's events that can be, by its own tuple of a standing."""
    readings = [reading for reading in range(setup.top + 1) if _can_jump(setup, state[0], reading)]
    return [("clock", maker, reading) for reading in readings] + [("give", maker), ("restart", maker)]


def step_alone(setup, state, event):
    """Return a maker's tuple of the standing behind its event, which can be, and the number given, or None."""
    maker = event[1]
    reading, last, counter, saved = state
    if event[0] == "clock":
        return (event[2], last, counter, saved), None
    if event[0] == "restart":
        return _restarted(setup, maker, reading, saved), None
    told = _told(setup, setup.plans[maker], state)
    if told is None:
        return state, None
    told_reading, told_counter = told
    if setup.plans[maker].on_restart != "forget":
        saved = told_reading
    return (reading, told_reading, told_counter, saved), (told_reading, setup.marks[maker], told_counter)


def _restarted(setup, maker, reading, saved):
    if setup.plans[maker].on_restart == "saved" and saved != NO_READING:
        # Any counter may have been given with the saved reading, so all count as given.
        return (reading, saved, setup.limit, saved)
    return (reading, NO_READING, 0, saved)


def _told(setup, plan, state):
    """Return the reading and the counter that a maker gives, None if it gives no number."""
    reading, last, counter, saved = state
    if last == NO_READING:
        waits = plan.on_restart == "wait" and saved != NO_READING and reading <= saved
        return None if waits else (reading, 0)
    if reading > last:
        return (reading, 0)
    if reading < last and plan.on_back == "trust":
        return (reading, 0)
    if reading < last and plan.on_back == "refuse":
        return None
    # With "hold", a clock below the last reading counts as one that shows it.
    return _told_at_last(setup, plan, last, counter)


def _told_at_last(setup, plan, last, counter):
    if counter < setup.limit:
        return (last, counter + 1)
    if plan.on_full == "wrap":
        return (last, 0)
    if plan.on_full == "borrow" and last < setup.top:
        return (last + 1, 0)
    return None
