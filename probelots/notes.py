"""Plans and answers as texts."""

from probelots.checks import check_answers, check_plan
from probelots.errors import BadText

SIGNS = {0: "-", 1: "+", None: "?"}
ANSWERS = {"-": 0, "+": 1, "?": None}
FIGURES = "0123456789"


def written(plan, told):
    """Tell the text of a plan and its answers."""
    check_plan(plan)
    things, probes = plan
    check_answers(told, len(probes))
    rows = [f"things {things}"]
    for probe, answer in zip(probes, told):
        rows.append(" ".join([SIGNS[answer]] + [str(thing) for thing in probe]))
    return "\n".join(rows)


def read(text):
    """Tell (plan, answers) of a text."""
    rows = rows_of(text)
    first, *others = rows
    probes = tuple([tuple([int(word) for word in words[1:]]) for words in others])
    plan = (int(first[1]), probes)
    check_plan(plan)
    return plan, tuple([ANSWERS[words[0]] for words in others])


def rows_of(text):
    """The words of each row of a text; refuse it, if a row isn't so."""
    if not isinstance(text, str):
        raise BadText(0)
    rows = [row.split(" ") for row in text.split("\n")]
    for number, words in enumerate(rows):
        right = is_first(words) if number == 0 else is_other(words)
        if not right:
            raise BadText(number)
    return rows


def is_first(words):
    """Whether these are "things" and a number."""
    return len(words) == 2 and words[0] == "things" and is_number(words[1])


def is_other(words):
    """Whether these are a sign and one or more numbers."""
    return len(words) > 1 and words[0] in ANSWERS and all([is_number(word) for word in words[1:]])


def is_number(word):
    """Whether it is a number of one or two figures, none needless."""
    # Other scripts have figures too, and to isdigit they are some.
    if not all([sign in FIGURES for sign in word]):
        return False
    return len(word) == 1 or len(word) == 2 and word[0] != "0"
