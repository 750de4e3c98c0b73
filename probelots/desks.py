"""Desks: each keeps a plan and the answers that have come."""

from probelots.checks import MOST_PROBES, check_count, check_most, check_plan, check_slips, is_answer, is_probe
from probelots.errors import BadCount, BadDeed, BadPlan, Halted, ProbeError
from probelots.reading import could

# Each word of a deed, and of how many things such a deed is, the word among them.
SIZES = {"tell": 3, "probe": 2, "drop": 2}


class Desk:
    """A plan and its answers, which change by deeds."""

    def __init__(self, plan, most, *, slips=0):
        check_plan(plan)
        check_most(most)
        check_slips(slips)
        things, probes = plan
        self._things = things
        self._probes = list(probes)
        self._told = [None for _ in probes]
        self._most = most
        self._slips = slips
        self._book = []
        self._busy = False

    def plan(self):
        """Tell the plan as it stands."""
        return self._things, tuple(self._probes)

    def answers(self):
        """Tell the answers as they stand."""
        return tuple(self._told)

    def lots(self):
        """Tell the lots that may be so by the answers."""
        return [lot for lot, _ in could(self.plan(), self.answers(), self._most, slips=self._slips)]

    def tell(self, number, answer):
        """Lay an answer of a probe, or take it back by None; tell how many lots more may be bad."""
        self._check_number(number)
        if not is_answer(answer):
            raise BadCount("no answer")
        ahead = len(self.lots())
        self._told[number] = answer
        return len(self.lots()) - ahead

    def drop(self, number):
        """Take a probe out, and its answer; tell how many lots more may be bad."""
        self._check_number(number)
        ahead = len(self.lots())
        self._probes.pop(number)
        self._told.pop(number)
        return len(self.lots()) - ahead

    def probe(self, lot):
        """Put one more probe behind; tell its number."""
        number = len(self._probes)
        if number == MOST_PROBES or not is_probe(lot, self._things):
            raise BadPlan(number)
        self._probes.append(lot)
        self._told.append(None)
        return number

    def _check_number(self, number):
        check_count(number, 0, len(self._probes) - 1)

    def batch(self, deeds, *, keep=True):
        """Do deeds in turn; tell what each told."""
        check_deeds(deeds)
        self._busy = True
        self._book.append("begun")
        try:
            return self._do_all(deeds, keep)
        finally:
            self._book.append("ended")
            self._busy = False

    def _do_all(self, deeds, keep):
        probes, told = list(self._probes), list(self._told)
        given = []
        for number, deed in enumerate(deeds):
            try:
                given.append(self._do(deed))
            except ProbeError as refusal:
                if keep is True:
                    raise Halted(number, number) from refusal
                self._probes, self._told = probes, told
                raise Halted(number, 0) from refusal
        return given

    def _do(self, deed):
        word = deed[0]
        if word == "tell":
            given = self.tell(deed[1], deed[2])
        elif word == "probe":
            given = self.probe(deed[1])
        else:
            given = self.drop(deed[1])
        self._book.append(word)
        return given

    def book(self):
        """Tell of each batch "begun", the word of each deed that was done, and "ended"."""
        return list(self._book)

    def is_idle(self):
        """Tell whether no batch is under way."""
        return not self._busy


def check_deeds(deeds):
    """Refuse what is no list of deeds."""
    if not isinstance(deeds, list):
        raise BadDeed(0)
    for number, deed in enumerate(deeds):
        if not is_deed(deed):
            raise BadDeed(number)


def is_deed(deed):
    """Whether it is a tuple of a deed's word and as many things as belong to it."""
    if not isinstance(deed, tuple) or len(deed) == 0:
        return False
    word = deed[0]
    return isinstance(word, str) and word in SIZES and len(deed) == SIZES[word]
