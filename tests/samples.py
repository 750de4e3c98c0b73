"""Values that several tests hand in."""

from probelots import errors

# What is no whole number at all, whatever its bounds.
NO_NUMBERS = [True, False, None, "", "1", "12", (), (1,), [], [1], 1.0, 0.0, 2.5]

# What is no tuple.
NO_TUPLES = [[], [1], [8, []], "", "ab", "8", 0, 1, -1, 7, 2.5, True, False, None, {}, {1: 2}]

NO_PLAN = [8, ((0, 1),)]
NO_TOLD = [0, 1]

LISTED = {
    "BadPlan": ("number",),
    "BadAnswers": ("number",),
    "BadChances": ("number",),
    "BadDeed": ("number",),
    "Halted": ("number", "done"),
    "BadTree": ("way",),
    "BadText": ("row",),
    "BadLot": (),
    "BadCount": (),
    "NoLot": (),
}


def slow_lots(things, most):
    """All lots in their turn, found by sorting every set of things."""
    found = []
    for mask in range(2 ** things):
        lot = tuple(thing for thing in range(things) if mask >> thing & 1)
        if len(lot) <= most:
            found.append((len(lot), lot))
    return [lot for _, lot in sorted(found)]


def spoil(value):
    """Change all that can be changed of what was told."""
    if isinstance(value, (list, tuple)):
        for part in value:
            spoil(part)
    if isinstance(value, list):
        value.reverse()
        value.append("spoilt")
        value[0] = None


def refusal(call, *handed, **named):
    """The error that the call raises; no error is a failure of the test."""
    try:
        given = call(*handed, **named)
    except ValueError as error:
        return error
    raise AssertionError(f"{call.__name__}{handed}{named} gave {given!r}")


def kinds_of(error):
    """The names of the listed classes that the error is of."""
    return [name for name in LISTED if isinstance(error, getattr(errors, name))]


class Refusing:
    """What test cases ask of refusals."""

    def refused(self, name, call, *handed, **named):
        error = refusal(call, *handed, **named)
        self.assertIsInstance(error, errors.ProbeError)
        self.assertIs(error.__class__, getattr(errors, name), (call.__name__, handed, named))
        self.assertEqual(kinds_of(error), [name])
        return error

    def refused_at(self, name, number, call, *handed, **named):
        error = self.refused(name, call, *handed, **named)
        self.assertEqual((error.number, error.number.__class__), (number, int), (call.__name__, handed, named))
