"""Set-ups as lists of small integers."""

from manymakers.checks import is_between
from manymakers.errors import DecodeError
from manymakers.setups import BACK_WORDS, FULL_WORDS, RESTART_WORDS, Plan, Setup

FIRST_ITEM = 127

# Behind the first item and the number of makers, a plan has so many items.
PLANS_AT = 2
PLAN_ITEMS = 3

CHECKSUM_START = 5
CHECKSUM_FACTOR = 31
CHECKSUM_MODULUS = 193


def encode_setup(setup):
    """Return a set-up as a list of integers from 0 to 255."""
    values = [FIRST_ITEM, len(setup)]
    for plan in setup.plans:
        values.append(BACK_WORDS.index(plan.on_back))
        values.append(FULL_WORDS.index(plan.on_full))
        values.append(RESTART_WORDS.index(plan.on_restart))
    values.extend(list(setup.marks))
    values.extend([setup.top, setup.limit, setup.back, setup.ahead])
    values.append(_checksum(values))
    return values


def decode_setup(values):
    """Return the set-up of such a list of integers."""
    bounds = [(FIRST_ITEM, FIRST_ITEM), (1, 2)]
    _check_items(values, bounds)
    makers = values[1]
    bounds += [(0, 2)] * (PLAN_ITEMS * makers) + [(0, 3)] * makers + [(1, 2), (0, 1), (0, 2), (1, 2)]
    _check_items(values, bounds)
    checksum = _checksum(values[:len(bounds)])
    bounds.append((checksum, checksum))
    _check_items(values, bounds)
    if len(values) > len(bounds):
        raise DecodeError(len(bounds))
    marks_at = PLANS_AT + PLAN_ITEMS * makers
    plans = [_plan_at(values, at) for at in range(PLANS_AT, marks_at, PLAN_ITEMS)]
    marks = values[marks_at:marks_at + makers]
    top, limit, back, ahead = values[marks_at + makers:-1]
    return Setup(tuple(plans), tuple(marks), top, limit, back, ahead)


def _checksum(values):
    checksum = CHECKSUM_START
    for value in values:
        checksum = (CHECKSUM_FACTOR * checksum + value) % CHECKSUM_MODULUS
    return checksum


def _check_items(values, bounds):
    for at, (low, high) in enumerate(bounds):
        if at >= len(values) or not is_between(values[at], low, high):
            raise DecodeError(at)


def _plan_at(values, at):
    return Plan(BACK_WORDS[values[at]], FULL_WORDS[values[at + 1]], RESTART_WORDS[values[at + 2]])
