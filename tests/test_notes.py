"""Promise [12]: plans and answers as texts."""

import itertools
import unittest

from probelots.notes import read, written
from probelots.plans import grid
from tests.samples import NO_NUMBERS, NO_TUPLES, Refusing

PLAN = (8, ((0, 1, 2), (2, 5), (7,)))
TEXT = "things 8\n+ 0 1 2\n- 2 5\n? 7"

PLANS = [
    (1, ()),
    (10, ()),
    (1, ((0,),)),
    PLAN,
    (10, (tuple(range(10)), (9,), (0, 9))),
    (10, ((0, 9),) * 16),
    grid(3, 3),
]

# What is no number of one or two figures.
NO_WORDS = ["", "00", "01", "07", "000", "001", "100", "123", "+1", "-1", "- 1", "1.", "0x1", "1_0", "a", "1a", "a1",
            "one", "?", "+", "-", "things", "True", "None", "()", "(0,)", "1,", "\t", "\t1", "1\t", "1\r"]


def tolds(many):
    """Answers of so many probes, each with each sign."""
    for first in itertools.product((0, 1, None), repeat=min(many, 3)):
        yield tuple(first[number % 3] for number in range(many))


class Written(Refusing, unittest.TestCase):
    def test_by_hand(self):
        self.assertEqual(written(PLAN, (1, 0, None)), TEXT)
        self.assertEqual(written(PLAN, (None, None, 1)), "things 8\n? 0 1 2\n? 2 5\n+ 7")
        self.assertEqual(written((10, ((0, 9),)), (0,)), "things 10\n- 0 9")

    def test_no_probes(self):
        self.assertEqual(written((8, ()), ()), "things 8")
        self.assertEqual(written((10, ()), ()), "things 10")

    def test_sixteen_probes(self):
        self.assertEqual(written((2, ((1,),) * 16), (1,) * 16), "things 2" + "\n+ 1" * 16)

    def test_no_plan(self):
        for plan in NO_TUPLES:
            self.refused_at("BadPlan", -1, written, plan, (0,))
        self.refused_at("BadPlan", 1, written, (4, ((0,), (4,))), None)
        self.refused_at("BadPlan", 16, written, (4, ((0,),) * 17), (0,) * 17)

    def test_no_answers(self):
        for told in NO_TUPLES:
            self.refused_at("BadAnswers", 0, written, PLAN, told)
        self.refused_at("BadAnswers", 2, written, PLAN, (0, 0))
        self.refused_at("BadAnswers", 3, written, PLAN, (0, 0, 0, 0))
        self.refused_at("BadAnswers", 1, written, PLAN, (0, "+", 0))
        self.refused_at("BadAnswers", 0, written, PLAN, (True, 0, 0))


class Read(Refusing, unittest.TestCase):
    def bad(self, row, *texts):
        for text in texts:
            error = self.refused("BadText", read, text)
            self.assertEqual((error.row, error.row.__class__), (row, int), repr(text))

    def bad_plan(self, number, text):
        self.refused_at("BadPlan", number, read, text)

    def test_by_hand(self):
        self.assertEqual(read(TEXT), (PLAN, (1, 0, None)))
        self.assertEqual(read("things 8"), ((8, ()), ()))
        self.assertEqual(read("things 10\n? 0 9"), ((10, ((0, 9),)), (None,)))

    def test_what_is_written_is_read_to_the_same(self):
        for plan in PLANS:
            for told in tolds(len(plan[1])):
                text = written(plan, told)
                self.assertEqual(read(text), (plan, told))
                self.assertEqual(written(*read(text)), text)

    def test_what_it_tells_is_a_tuple_of_tuples(self):
        given = read(TEXT)
        (things, probes), told = given
        self.assertEqual([part.__class__ for part in (given, given[0], probes, probes[0], told)], [tuple] * 5)
        self.assertEqual([part.__class__ for part in (things, probes[0][0], told[0])], [int] * 3)

    def test_the_empty_text(self):
        self.bad(0, "", "\n", "\n\n", "\n" + TEXT)

    def test_the_first_row(self):
        self.bad(0, "things", "things ", "things  8", " things 8", "things 8 ", "things 8 8", "thing 8", "Things 8")
        self.bad(0, "8", "8 things", "things8", "things\t8", "things,8", "things\n8", "things 8\r")
        self.bad(0, "+ 0", "+ 0\nthings 8")
        for word in NO_WORDS:
            self.bad(0, f"things {word}", f"things {word}\n+ 0", f"things {word}\n+")

    def test_a_sign_that_is_none(self):
        for sign in ["", "*", "0", "1", "++", "+-", "x", "None", "things", "+0", "?0", " ", "\t", "_", "--", "+\t"]:
            self.bad(1, f"things 8\n{sign} 0", f"things 8\n{sign} 0\n+")
            self.bad(3, f"things 8\n+ 0\n- 1\n{sign} 0\n+ 5")

    def test_more_or_less_blanks(self):
        for row in [" + 0", "+  0", "+ 0 ", "+0", "+ 0  1", "+ 0 1 ", "+ 01", " ", "+ ", "+\t0", "+ 0\t1", "+\r0"]:
            self.bad(1, f"things 8\n{row}", f"things 8\n{row}\n- 1", f"things 8\n{row}\n\n")
            self.bad(2, f"things 8\n- 1\n{row}", f"things 8\n? 2 3\n{row}\n- 1")

    def test_no_number(self):
        for sign in "+-?":
            self.bad(1, f"things 8\n{sign}", f"things 8\n{sign}\n+ 0")
            for word in NO_WORDS:
                self.bad(1, f"things 8\n{sign} {word}", f"things 8\n{sign} 0 {word}", f"things 8\n{sign} {word} 7")
                self.bad(2, f"things 8\n+ 0\n{sign} 0 {word} 7\n+ 1")

    def test_an_empty_row(self):
        self.bad(1, "things 8\n\n+ 0", "things 8\n\n")
        self.bad(2, "things 8\n+ 0\n\n- 1")

    def test_a_line_end_too_many(self):
        self.bad(1, "things 8\n")
        self.bad(4, TEXT + "\n", TEXT + "\n\n")
        self.bad(17, written((10, ((0, 9),) * 16), (0,) * 16) + "\n")

    def test_two_first_rows(self):
        self.bad(1, "things 8\nthings 8")
        self.bad(2, "things 8\n+ 0\nthings 8")

    def test_what_is_no_text(self):
        self.bad(0, *[text for text in NO_TUPLES + NO_NUMBERS if not isinstance(text, str)])
        self.bad(0, TEXT.encode(), [TEXT], (TEXT,), TEXT.split("\n"), (PLAN, (1, 0, None)))

    def test_right_rows_but_no_plan(self):
        self.bad_plan(-1, "things 0")
        self.bad_plan(-1, "things 11")
        self.bad_plan(-1, "things 99\n+ 0")
        self.bad_plan(0, "things 8\n+ 8")
        self.bad_plan(0, "things 8\n+ 1 0")
        self.bad_plan(1, "things 8\n+ 0\n- 99\n? 10")
        self.bad_plan(2, "things 8\n+ 0\n- 1\n? 2 2")
        self.bad_plan(1, "things 1\n+ 0\n- 0 1 2 3 4 5 6 7 8 9 10 11 12")
        self.bad_plan(16, "things 8" + "\n+ 0" * 17)
        self.bad_plan(16, "things 8" + "\n+ 0" * 40)
        self.bad_plan(3, "things 8" + "\n+ 0" * 3 + "\n+ 8" * 20)

    def test_texts_ahead_of_plans(self):
        self.bad(1, "things 0\n", "things 99\n+ 01")
        self.bad(2, "things 8\n+ 8\n+ 00")
        self.bad(18, "things 8" + "\n+ 0" * 17 + "\n")
        self.bad(20, "things 8" + "\n+ 8 8" * 19 + "\n+ 100")

    def test_the_first_row_that_is_not_so(self):
        self.bad(0, "thing 8\n+\n+")
        self.bad(1, "things 8\n+\n*")
        self.bad(2, "things 8\n+ 0\n*\n+")


if __name__ == "__main__":
    unittest.main()
