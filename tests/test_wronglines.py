"""Point 28: the lines at which runs go wrong."""

import random
import unittest

from made import Brancher, I, L, Maker, by_words, inputs_of, program, sorter, spill, tally, weaving_of
from plaincharts import Wary
from firstwrong.errors import BadInputs, BadNumber, BadText, NotNow
from firstwrong.examples import sorter_text, spill_text, tally_text
from firstwrong.moments import begun
from firstwrong.programtexts import program_of_text, statement_lines, text_of
from firstwrong.steps import first_wrong, run
from firstwrong.trees import pieces
from firstwrong.wronglines import wrong_line


def with_passed(text, seed):
    """The text with passed lines put in, and from its lines to theirs."""
    dice = random.Random(seed)
    found, places = [], []
    for line in text.split("\n"):
        for _ in range(dice.choice((0, 0, 0, 1, 2))):
            found.append(dice.choice(("", "   ", "# end", "  #while 1", "#")))
        places.append(len(found))
        found.append(line)
    return "\n".join(found + [""] * dice.randint(0, 2)), places


class Lines(unittest.TestCase):
    def test_spill(self):
        """As [29] tells it of the three wrongs, for all inputs."""
        rows = spill_text().split("\n")
        for seed in range(4):
            text, places = with_passed(spill_text(), seed)
            for n in range(10):
                for m in (0, 1):
                    weaving = [0] * (4 + 3 * n + 10)
                    wrong, line = (4 + 3 * n, 0, "unset"), "give @row[3]"
                    if n > 4:
                        wrong, line = (16, 0, "beyond"), "@row[@spot] = @spot"
                    if n == 4:
                        wrong, line = (20, 0, "gone"), "give *@row"
                    if (n, m) == (4, 0):
                        wrong = None
                        weaving = weaving[:20]
                    self.assertEqual(first_wrong(begun(spill()), [n, m], weaving), wrong)
                    told = wrong_line(text, [n, m], weaving)
                    if wrong is None:
                        self.assertIsNone(told)
                    else:
                        place = [spot for spot, row in enumerate(rows) if row.strip() == line][0]
                        self.assertEqual(told, (places[place],) + wrong[1:])

    def test_clean_ones(self):
        for seed in range(10):
            weaving = weaving_of(begun(tally()), [], 80, seed)
            self.assertIsNone(wrong_line(with_passed(tally_text(), seed)[0], [], weaving))
        inputs = [5, 9, -3, 0, 2 ** 31 - 1, -(2 ** 31)]
        weaving = weaving_of(begun(sorter()), inputs, 300, 0)
        self.assertIsNone(wrong_line(with_passed(sorter_text(), 1)[0], inputs, weaving))
        self.assertIsNone(wrong_line(sorter_text(), [], []))

    def test_each_wrong_word(self):
        for word, rows in by_words().items():
            for seed, made in enumerate(rows):
                text, _ = with_passed(text_of(made), seed)
                weaving = weaving_of(begun(made), [], 40, 0)
                self.look(made, text, [], weaving)
                self.assertEqual(wrong_line(text, [], weaving)[1:], (0, word))

    def look(self, made, text, inputs, weaving):
        """The line told is one of those at which the statement begins that went wrong."""
        wrong = first_wrong(begun(made), inputs, weaving)
        told = wrong_line(text, inputs, weaving)
        self.assertEqual(told and told[1:], wrong and wrong[1:])
        if told is None:
            return None
        frame = run(begun(made), inputs, weaving[:wrong[0]])[0][-1].stacks[wrong[1]][-1]
        lines = {line: (function, place) for line, function, place in statement_lines(text)}
        function, place = lines[told[0]]
        self.assertEqual(function, frame[0])
        self.assertEqual(dict(pieces(made, function))[place], frame[1][0])
        return told

    def test_random(self):
        met = 0
        for seed in range(120):
            made = (Maker, Brancher, Wary)[seed % 3](seed).program()
            inputs = [abs(number) for number in inputs_of(seed, 60)] if seed % 3 == 1 else [random.Random(seed).randint(0, 1) for _ in range(60)]
            weaving = weaving_of(begun(made), inputs, 60, seed)
            text, _ = with_passed(text_of(made), seed)
            met += self.look(program_of_text(text), text, inputs, weaving) is not None
        self.assertGreater(met, 50)

    def test_statements_that_are_alike(self):
        """What a frame has to do may be the same at unlike places: the way there tells the line."""
        wrong = ("give", ("share", I(1), L("x")))
        fine = ("let", "y", I(1))
        both = (("ask", "x", 0, 9), ("if", ("same", L("x"), I(5)), (("let", "x", I(0)), wrong), (("let", "x", I(0)), wrong)))
        made = program(both, (("x", "int"), ("y", "int")))
        rows = text_of(made).split("\n")
        lines = [number for number, row in enumerate(rows) if "give" in row]
        self.assertEqual([wrong_line(text_of(made), [number], [0] * 4) for number in (5, 6)], [(lines[0], 0, "share"), (lines[1], 0, "share")])
        # Behind the last statement of a body: what comes behind the "if", or the "while" again.
        nested = (("let", "x", I(3)), ("while", L("x"), (("if", ("same", L("x"), I(2)), (("if", L("x"), (fine,), ()),), (("while", I(0), ()),)),
                                                          ("let", "x", ("less", L("x"), I(1))))), ("if", I(0), (wrong,), ()), ("if", I(1), (), (wrong,)), wrong)
        made = program(nested, (("x", "int"), ("y", "int")))
        weaving = weaving_of(begun(made), [], 60, 0)
        told = self.look(made, text_of(made), [], weaving)
        self.assertEqual(told[0], [number for number, row in enumerate(text_of(made).split("\n")) if "give" in row][-1])

    def test_empty_bodies_and_calls(self):
        f = ("f", (("n", "int"),), (), (), "none", (("if", L("n"), (("call", "", "f", (("less", L("n"), I(1)),)),), (("give", ("share", I(1), L("n"))),)),))
        empty = ("g", (), (), (), "none", ())
        made = program((("call", "", "g", ()), ("while", I(0), ()), ("call", "", "g", ()), ("if", I(1), (), ()), ("call", "", "f", (I(2),)), ("give", I(1))), more=(f, empty),
                       threads=("main", "g", "main"))
        for seed in range(10):
            weaving = weaving_of(begun(made), [], 60, seed)
            told = self.look(made, text_of(made), [], weaving)
            self.assertEqual(text_of(made).split("\n")[told[0]].strip(), "give 1 / @n")
        # A body that is (): "while" stays where it is.
        made = program((("let", "x", I(1)), ("while", ("share", I(1), L("x")), ()), ("give", I(1))), (("x", "int"),))
        self.assertIsNone(wrong_line(text_of(made), [], [0] * 9))
        made = program((("call", "", "main", ()),))
        self.assertEqual(wrong_line(text_of(made), [], [0] * 12), (3, 0, "deep"))
        # Behind a call that is the last statement, in a loop, back to the caller.
        h = ("h", (), (), (), "int", (("return", I(0)),))
        made = program((("let", "x", I(1)), ("while", ("share", I(4), L("x")), (("call", "x", "h", ()),))), (("x", "int"),), more=(h,))
        told = self.look(made, text_of(made), [], [0] * 5)
        self.assertEqual(text_of(made).split("\n")[told[0]].strip(), "while 4 / @x")

    def test_errors(self):
        with self.assertRaises(BadText) as caught:
            wrong_line(None, None, None)
        self.assertEqual((caught.exception.line, caught.exception.reason), (None, "form"))
        with self.assertRaises(BadText) as caught:
            wrong_line("lock k\nlock k\nfunction f()", None, None)
        self.assertEqual((caught.exception.line, caught.exception.reason), (1, "word"))
        with self.assertRaises(BadText) as caught:
            wrong_line("function f()", None, None)
        self.assertEqual((caught.exception.line, caught.exception.reason), (1, "end"))
        for inputs in (None, 5, [True], [2 ** 31]):
            self.assertRaises(BadInputs, wrong_line, spill_text(), inputs, None)
        for weaving in (None, [1], [True], [-1], 5):
            with self.assertRaises(BadNumber) as caught:
                wrong_line(spill_text(), [3], weaving)
            self.assertEqual(caught.exception.part, "weaving")
        self.assertRaises(BadInputs, wrong_line, spill_text(), [10], [0])
        for inputs, weaving, why in (([], [0], "inputs"), ([4, 0], [0] * 22, "ended")):
            with self.assertRaises(NotNow) as caught:
                wrong_line(spill_text(), inputs, weaving)
            self.assertEqual(caught.exception.why, why)
        # What stands behind the wrong step is not done.
        self.assertEqual(wrong_line(text=spill_text(), inputs=[5], weaving=[0] * 500)[1:], (0, "beyond"))
        self.assertIsNone(wrong_line("", [], []))


if __name__ == "__main__":
    unittest.main()
