"""Point 105: terms and deeds as texts."""

import random
import unittest

from made import I, L, program, spill
from sittings_by_hand import Hand, Refused, some_deed, starts
from firstwrong.errors import BadDeed, BadTerm, BadTree
from firstwrong.moments import begun
from firstwrong.sessions import is_deed
from firstwrong.terms import deed_of_text, deed_text, is_term, term_of_text, term_text


def nested(many):
    """So many tuples within one another."""
    thing = ()
    for _ in range(many - 1):
        thing = (thing,)
    return thing


TEXTS = ((0, "0"), (7, "7"), (-5, "-5"), (10 ** 40 - 1, "9" * 40), (1 - 10 ** 40, "-" + "9" * 40), (None, "#n"), (True, "#t"), (False, "#f"), ("", "#e"), ("a", "a"),
         ("abcdefghijkl", "abcdefghijkl"), ((), "()"), ((1,), "(1)"), ((1, "a", None), "(1 a #n)"), ((("", ()), True), "((#e ()) #t)"),
         (nested(40), "(" * 40 + ")" * 40), (((1, 2), (3,)), "((1 2) (3))"), (10, "10"), (-10, "-10"))
NO_TERMS = (10 ** 40, -(10 ** 40), 1.0, "A", "a1", "a b", "abcdefghijklm", "#n", "(", "-", "\u00e9", [], [1], (1, [2]), {}, nested(41), (nested(40),), b"a", (1, 2.0), ("A",), int, {1})
NO_TEXTS = ("", " ", "a ", " a", "a b", "()()", "( )", "(1  2)", "(1 2 )", "( 1)", "(1", "1)", ")", "(", "01", "-0", "-", "--1", "+1", "1.0", "00", "#", "#x", "#N", "#n#n", "A",
            "a1", "1a", "a(", "a()", "()a", "(a)(b)", "(a)b", "abcdefghijklm", "9" * 41, "-" + "9" * 41, "1" + "0" * 40, "(" * 41 + ")" * 41, "\t", "a\n", "\n", "\u0661", "1_0", "(1,2)",
            "(1\t2)", "9" * 5000, "#e#e", "(#e )", "#ea", "None", "#T", "(()", "())", ") (", "\u00b2")


class Terms(unittest.TestCase):
    def test_there_and_back(self):
        for term, text in TEXTS:
            self.assertTrue(is_term(term))
            self.assertEqual(term_text(term), text)
            told = term_of_text(text)
            self.assertEqual((told, type(told)), (term, type(term)))
        for thing in NO_TERMS:
            self.assertFalse(is_term(thing), thing)
            self.assertRaises(BadTerm, term_text, thing)
        for text in NO_TEXTS + (None, 5, ("a",), ["a"], b"a"):
            self.assertRaises(BadTerm, term_of_text, text)
        self.assertEqual((is_term(thing=None), term_text(term=None), term_of_text(text="#n")), (True, "#n", None))

    def test_random(self):
        for seed in range(500):
            dice = random.Random(seed)

            def some(deep):
                if deep and dice.random() < 0.5:
                    return tuple(some(deep - 1) for _ in range(dice.randint(0, 4)))
                return dice.choice((None, True, False, "", "if", "z" * 12, 0, 1, -1, 10 ** 39, dice.randint(-(10 ** 9), 10 ** 9)))

            term = some(6)
            text = term_text(term)
            self.assertEqual(repr(term_of_text(text)), repr(term))
            # Texts that are near.
            place = dice.randrange(len(text))
            for near in (text[:place] + text[place + 1:], text[:place] + dice.choice("() -#01anz") + text[place:], text + " ", text[:place]):
                try:
                    told = term_of_text(near)
                except BadTerm:
                    continue
                self.assertEqual(term_text(told), near)


class Deeds(unittest.TestCase):
    def test_by_hand(self):
        made = spill()
        for deed, text in ((("to", 5), "to 5"), (("on",), "on"), (("edit", ("local", 0, "x", 5)), "edit (local 0 x 5)"), (("mark", "a"), "mark a"),
                           (("course", ()), "course ()"), (("course", (0, ("cell", 0, 1, 0, None))), "course (0 (cell 0 1 0 #n))"), (("input", 0, -7), "input 0 -7"),
                           (("stop", ("at", None, "main", ("give", ("at", L("row"))), I(1))), "stop (at #n main (give (at (local row))) (int 1))"),
                           (("edit", ("local", 0, "x", (1, 2, 3))), "edit (local 0 x (1 2 3))"), (("look", ("free",)), "look (free)")):
            self.assertEqual(deed_text(made, deed), text)
            self.assertEqual(deed_of_text(made, text), deed)
        for text in ("", "to", "to 05", "to  5", " to 5", "to 5 ", "to 5 5", "(to 5)", "to (5)", "over 1", "mark A", "mark", "edit (local 0 x #t)", "to #n", "where", "undo", ") (", "to 5)",
                     "to 1000000001", "course 0", "stop (at #n other #n (int 1))", None, 5, ("to", 5), b"on", "on on"):
            self.assertRaises(BadTerm, deed_of_text, made, text)
        for deed in (None, (), ("to",), ("to", True), ["on"], "on", ("over", 1)):
            self.assertRaises(BadDeed, deed_text, made, deed)
        for call in (deed_text, deed_of_text):
            for thing in (None, 5, begun(made)):
                with self.assertRaises(BadTree) as caught:
                    call(thing, None)
                self.assertIsNone(caught.exception.at)
        self.assertEqual((deed_text(program=made, deed=("on",)), deed_of_text(program=made, text="on")), ("on", ("on",)))

    def test_random(self):
        for seed, told in enumerate(starts()):
            hand, dice, made = Hand(*told), random.Random(seed), told[0].program
            for _ in range(30):
                deed = some_deed(dice, hand)
                if is_deed(made, deed):
                    self.assertEqual(deed_of_text(made, deed_text(made, deed)), deed)
                    self.assertEqual(deed_text(made, deed), term_text(deed)[1:-1])
                try:
                    hand.do(deed)
                except Refused:
                    pass

    def test_deep_ones(self):
        """A statement with bodies within one another, and an expression 12 deep."""
        deep = I(1)
        for _ in range(11):
            deep = ("sum", deep, I(1))
        body = (("give", deep),)
        for _ in range(5):
            body = (("if", deep, body, ()),)
        made = program(body)
        deed = ("stop", ("at", 0, "main", body[0], deep))
        self.assertEqual(deed_of_text(made, deed_text(made, deed)), deed)
        long = ("course", (("local", 0, "abcdefghijkl", -(2 ** 31)),) * 2048)
        self.assertEqual(deed_of_text(made, deed_text(made, long)), long)


if __name__ == "__main__":
    unittest.main()
