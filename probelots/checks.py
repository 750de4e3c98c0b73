"""Refusals of plans, lots, answers and counts that can't be."""

from probelots.errors import BadAnswers, BadChances, BadCount, BadLot, BadPlan

MOST_THINGS = 10
MOST_PROBES = 16
MOST_BAD = 3
MOST_SLIPS = 16
HUNDRED = 100


def is_within(value, low, high):
    """Whether it is a whole number from low to high."""
    # True and False are integers to Python, but no numbers to the document.
    if not isinstance(value, int) or isinstance(value, bool):
        return False
    return low <= value <= high


def is_lot(value, things):
    """Whether it is a rising tuple of things, perhaps none."""
    if not isinstance(value, tuple):
        return False
    least = 0
    for thing in value:
        if not is_within(thing, least, things - 1):
            return False
        least = thing + 1
    return True


def is_probe(value, things):
    """Whether it is a lot of one thing at least."""
    return is_lot(value, things) and len(value) > 0


def is_answer(value):
    """Whether it is 0, 1, or None for none."""
    return value is None or is_within(value, 0, 1)


def is_chance(value):
    """Whether it is a number of hundredths."""
    return is_within(value, 0, HUNDRED)


def check_plan(plan):
    """Refuse what is no plan."""
    if not isinstance(plan, tuple) or len(plan) != 2:
        raise BadPlan(-1)
    things, probes = plan
    if not is_within(things, 1, MOST_THINGS):
        raise BadPlan(-1)
    if not isinstance(probes, tuple):
        raise BadPlan(0)
    for number, probe in enumerate(probes):
        if number == MOST_PROBES or not is_probe(probe, things):
            raise BadPlan(number)


def check_lot(lot, things):
    """Refuse what is no lot of so many things."""
    if not is_lot(lot, things):
        raise BadLot("no lot of the plan")


def first_wrong(values, many, is_right):
    """The number of the first of so many values that can't be, or lacks, or is too much; None for none."""
    if not isinstance(values, tuple):
        return 0
    for number, value in enumerate(values):
        if number == many or not is_right(value):
            return number
    return len(values) if len(values) < many else None


def check_answers(told, many):
    """Refuse what are no answers of so many probes."""
    number = first_wrong(told, many, is_answer)
    if number is not None:
        raise BadAnswers(number)


def check_chances(chances, things):
    """Refuse what are no chances of so many things."""
    number = first_wrong(chances, things, is_chance)
    if number is not None:
        raise BadChances(number)


def check_count(value, low, high):
    """Refuse what is no whole number from low to high."""
    if not is_within(value, low, high):
        raise BadCount(f"no number from {low} to {high}")


def check_most(most):
    """Refuse what can't be how many things may be bad."""
    check_count(most, 0, MOST_BAD)


def check_slips(slips):
    """Refuse what can't be how many answers may be slips."""
    check_count(slips, 0, MOST_SLIPS)
