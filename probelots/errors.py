"""The refusals of the program."""


class ProbeError(ValueError):
    """Any refusal."""


class BadPlan(ProbeError):
    """No plan: number is -1 for its form or its things, else that of a probe."""

    def __init__(self, number):
        super().__init__(f"no plan, by {number}")
        self.number = number


class BadAnswers(ProbeError):
    """No answers for a plan: number is that of the first answer that can't be."""

    def __init__(self, number):
        super().__init__(f"no answers, by {number}")
        self.number = number


class BadChances(ProbeError):
    """No chances for a plan: number is that of the first one that can't be."""

    def __init__(self, number):
        super().__init__(f"no chances, by {number}")
        self.number = number


class BadDeed(ProbeError):
    """No list of deeds: number is that of the first deed that can't be."""

    def __init__(self, number):
        super().__init__(f"no deeds, by {number}")
        self.number = number


class Halted(ProbeError):
    """A batch that was halted: number is that of the deed, done how many stand."""

    def __init__(self, number, done):
        super().__init__(f"halted by deed {number}, {done} stand")
        self.number = number
        self.done = done


class BadTree(ProbeError):
    """No tree: way is the tuple of answers that lead to what can't be."""

    def __init__(self, way):
        super().__init__(f"no tree, by the way {way}")
        self.way = way


class BadText(ProbeError):
    """No text of a plan: row is that of the first row that can't be."""

    def __init__(self, row):
        super().__init__(f"no text of a plan, by row {row}")
        self.row = row


class BadLot(ProbeError):
    """No lot of a plan."""


class BadCount(ProbeError):
    """A number that can't be."""


class NoLot(ProbeError):
    """No lot may be so."""
