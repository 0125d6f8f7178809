"""Points 25 to 28: texts of programs, written, read, mended; and the facts of point 29 about the examples."""

import random
import unittest

from made import I, L, Maker, by_words, program, programs, sorter, spill, tally, weaving_of
from firstwrong.errors import BadText, BadTree
from firstwrong.examples import sorter_text, spill_text, tally_text
from firstwrong.moments import begun
from firstwrong.programtexts import mended, program_of_text, statement_lines, text_of, wrong_lines
from firstwrong.steps import can_step, first_wrong, run, stepped
from firstwrong.trees import Program, pieces, tree_of
from firstwrong.values import CELL_SORTS

P, PP = ("to", "int"), ("to", ("to", "int"))
HEAD = """shared int s[2]
shared int* t[1]
lock k
function f(int a, byte b) gives int
end
function g()
end
function main()
  int x
  int y
  byte b
  int* p
  int** r
  byte* q
  int m[2]
end"""
X, Y, B, Q = L("x"), L("y"), L("b"), L("p")


def with_body(*lines):
    """A text with these lines in main's body."""
    return HEAD + "\nbody main\n" + "\n".join(lines) + "\nend\nthread main"


def read(*lines):
    """The body of main."""
    return program_of_text(with_body(*lines)).functions[2][5]


def expression(text):
    """An expression of sort int as it is read."""
    return read("give " + text)[0][1]


FIRST = len(HEAD.split("\n")) + 1


class Written(unittest.TestCase):
    def test_examples(self):
        for text, made in ((tally_text(), tally()), (sorter_text(), sorter()), (spill_text(), spill())):
            self.assertEqual(text_of(made), text)
            self.assertEqual(program_of_text(text), made)

    def test_nothing(self):
        self.assertEqual(text_of(Program(((), (), (), ()))), "")
        self.assertEqual(program_of_text(""), Program(((), (), (), ())))
        self.assertEqual(text_of(program=program(())), "function main()\nend\nthread main")

    def test_each_line(self):
        body = (("let", "x", I(-5)), ("store", Q, X), ("store", ("on", Q, X), I(1)), ("make", "r", P, ("sum", X, I(1))), ("away", Q),
                ("ask", "x", -3, 4), ("give", X), ("if", X, (("give", I(1)),), ()), ("if", X, (), (("give", I(2)),)),
                ("while", ("not", X), (("if", X, (("return", ),), (("return",),)),)), ("call", "x", "f", (X, B)), ("call", "", "g", ()),
                ("take", "k"), ("leave", "k"), ("return",), ("let", "b", ("byte", 7)), ("let", "p", ("null", "int")), ("let", "p", ("block", "m")),
                ("let", "r", ("null", P)), ("let", "q", ("null", "byte")), ("store", ("shared", "t"), ("shared", "s")))
        made = Program(((("s", "int", 2), ("t", P, 1)), ("k",), (
            ("f", (("a", "int"), ("b", "byte")), (), (), "int", (("return", L("a")),)), ("g", (), (), (), "none", ()),
            ("main", (), (("x", "int"), ("y", "int"), ("b", "byte"), ("p", P), ("r", PP), ("q", ("to", "byte"))), (("m", "int", 2),),
             "none", body), ("h", (("z", PP),), (), (("n", ("to", "byte"), 8),), PP, ())), ("main", "g")))
        self.assertEqual(text_of(made), """shared int s[2]
shared int* t[1]
lock k
function f(int a, byte b) gives int
end
function g()
end
function main()
  int x
  int y
  byte b
  int* p
  int** r
  byte* q
  int m[2]
end
function h(int** z) gives int**
  byte* n[8]
end
body f
  return @a
end
body main
  @x = -5
  *@p = @x
  @p[@x] = 1
  @r = make int*[@x + 1]
  away @p
  @x = ask(-3, 4)
  give @x
  if @x
    give 1
  end
  if @x
  else
    give 2
  end
  while not @x
    if @x
      return
    else
      return
    end
  end
  @x = call f(@x, @b)
  call g()
  take k
  leave k
  return
  @b = byte 7
  @p = null(int)
  @p = &m
  @r = null(int*)
  @q = null(byte)
  *$t = $s
end
thread main
thread g""")
        self.assertEqual(program_of_text(text_of(made)), made)

    def test_brackets_and_strengths(self):
        a, b = X, Y
        for tree, text in (
                (("or", ("or", a, b), a), "@x or @y or @x"), (("or", a, ("or", b, a)), "@x or (@y or @x)"),
                (("or", ("and", a, b), a), "@x and @y or @x"), (("and", ("or", a, b), a), "(@x or @y) and @x"),
                (("and", a, ("and", b, a)), "@x and (@y and @x)"), (("and", ("not", a), ("not", b)), "not @x and not @y"),
                (("not", ("and", a, b)), "not (@x and @y)"), (("not", ("not", a)), "not not @x"), (("not", ("same", a, b)), "not @x == @y"),
                (("same", ("not", a), b), "(not @x) == @y"), (("same", a, ("not", b)), "@x == (not @y)"),
                (("same", ("below", a, b), a), "(@x < @y) == @x"), (("below", a, ("same", b, a)), "@x < (@y == @x)"),
                (("same", ("same", a, b), a), "(@x == @y) == @x"), (("below", ("sum", a, b), ("less", a, b)), "@x + @y < @x - @y"),
                (("less", ("less", a, b), a), "@x - @y - @x"), (("less", a, ("less", b, a)), "@x - (@y - @x)"),
                (("sum", a, ("times", b, a)), "@x + @y * @x"), (("times", ("sum", a, b), a), "(@x + @y) * @x"),
                (("share", ("times", a, b), a), "@x * @y / @x"), (("times", a, ("rest", b, a)), "@x * (@y rest @x)"),
                (("rest", ("share", a, b), I(-3)), "@x / @y rest -3"), (("less", a, I(-3)), "@x - -3"),
                (("at", Q), "*@p"), (("at", ("on", Q, a)), "@p[@x]"), (("at", ("at", L("r"))), "**@r"), (("at", ("at", ("on", L("r"), a))), "*@r[@x]"),
                (("at", ("on", ("at", L("r")), a)), "(*@r)[@x]"), (("at", ("on", ("on", Q, a), b)), "(@p + @x)[@y]"),
                (("at", ("on", ("at", ("on", L("r"), a)), b)), "@r[@x][@y]"), (("at", ("on", Q, ("or", a, b))), "@p[@x or @y]"),
                (("times", ("at", Q), ("at", Q)), "*@p * *@p"), (("gap", ("on", Q, a), ("shared", "s")), "@p + @x - $s"),
                (("gap", Q, ("on", Q, a)), "@p - (@p + @x)"), (("wide", ("sum", B, ("low", ("sum", a, b)))), "int(@b + byte(@x + @y))"),
                (("same", ("sum", a, b), ("times", a, b)), "@x + @y == @x * @y"), (("below", ("same", a, b), ("below", a, b)), "(@x == @y) < (@x < @y)"),
                (("or", ("or", a, b), ("and", a, b)), "@x or @y or @x and @y"), (("and", ("and", a, b), ("not", a)), "@x and @y and not @x"),
                (("sum", ("sum", a, b), ("times", a, b)), "@x + @y + @x * @y"), (("sum", ("less", a, b), ("sum", a, b)), "@x - @y + (@x + @y)"),
                (("less", ("sum", a, b), ("times", a, b)), "@x + @y - @x * @y"), (("times", ("times", a, b), ("at", Q)), "@x * @y * *@p"),
                (("share", ("share", a, b), ("at", Q)), "@x / @y / *@p"), (("rest", ("rest", a, b), ("at", Q)), "@x rest @y rest *@p"),
                (("share", a, ("times", a, b)), "@x / (@x * @y)"), (("rest", a, ("share", a, b)), "@x rest (@x / @y)"),
                (("gap", ("on", ("on", Q, a), ("times", a, b)), Q), "@p + @x + @x * @y - @p"), (("gap", Q, Q), "@p - @p"),
                (("same", ("on", ("on", Q, a), ("sum", a, b)), Q), "@p + @x + (@x + @y) == @p"),
                (("wide", ("byte", 255)), "int(byte 255)"), (("same", ("null", "int"), ("block", "m")), "null(int) == &m"),
                (("same", L("r"), ("null", P)), "@r == null(int*)"), (("at", ("on", ("null", "int"), a)), "null(int)[@x]"),
                (("at", ("null", "int")), "*null(int)"), (("less", ("not", a), ("or", a, b)), "(not @x) - (@x or @y)")):
            self.assertEqual(expression(text), tree, text)
            made = program_of_text(with_body("give " + text))
            self.assertIn("\n  give " + text + "\n", text_of(made))

    def test_facts_over_programs(self):
        rows = programs(150) + [spill(), tally(), sorter()] + [made for row in by_words().values() for made in row]
        for made in rows:
            text = text_of(made)
            self.assertEqual(program_of_text(text), made)
            self.assertEqual(wrong_lines(text), [])
            self.assertEqual(mended(text), made)

    def deep(self, many):
        """An int expression so deep."""
        found = I(1)
        for number in range(many - 1):
            found = (("sum", I(2), found), ("not", found), ("wide", ("low", found)), ("at", ("on", ("shared", "s"), found)))[number % 2]
        return found

    def test_deep_programs(self):
        p = ("on", ("on", ("shared", "s"), self.deep(10)), I(1))
        for body in ((("give", self.deep(12)),), (("store", p, self.deep(12)),), (("store", ("on", ("shared", "s"), self.deep(11)), I(1)),)):
            made = program(body, (("x", "int"),), (("s", "int", 1),))
            self.assertEqual(program_of_text(text_of(made)), made)
        wide = ("same", ("null", "int"), ("null", "int"))
        for number in range(10):
            wide = ("low", wide) if number % 2 == 0 else ("wide", wide)
        made = program((("make", "p", "int", wide),), (("p", P),))
        self.assertEqual(program_of_text(text_of(made)), made)

    def test_each_pair_of_brackets_is_needed(self):
        left_out = 0
        for made in programs(60) + [sorter()]:
            lines = text_of(made).split("\n")
            for number, line in enumerate(lines):
                for first, last in self.pairs(line):
                    left_out += 1
                    cut = line[:first] + line[first + 1:last] + line[last + 1:]
                    text = "\n".join(lines[:number] + [cut] + lines[number + 1:])
                    try:
                        self.assertNotEqual(program_of_text(text), made, line)
                    except BadText as error:
                        self.assertEqual(error.line, number)
        self.assertGreater(left_out, 30)

    def pairs(self, line):
        """The brackets that stand round an expression alone: a blank or an opening one stands ahead."""
        found, opened = [], []
        for place, sign in enumerate(line):
            if sign in "([":
                opened.append((place, sign == "(" and (place == 0 or line[place - 1] in " ([*")))
            elif sign in ")]":
                place_ahead, alone = opened.pop()
                if alone:
                    found.append((place_ahead, place))
        return found

    def test_errors(self):
        for thing in (None, 5, ((), (), (), ()), ""):
            with self.assertRaises(BadTree) as caught:
                text_of(thing)
            self.assertIsNone(caught.exception.at)


class Read(unittest.TestCase):
    def test_blanks_and_passed_lines(self):
        text = tally_text()
        wide = text.replace("\n", "\n\n   \n# a ( [ remark ??\n   #\n").replace("*$sum", " *  $ sum  ").replace("while @turn < 3", "while(@turn<3)")
        self.assertEqual(program_of_text(wide), tally())
        self.assertEqual(program_of_text("\n\n" + text.replace("  ", "") + "\n"), tally())
        self.assertEqual(program_of_text("#" + "\n  #x\n"), Program(((), (), (), ())))
        tight = sorter_text().replace(" = ", "=").replace(" < ", "<").replace(" - ", "-").replace(", ", ",").replace("make int[", "make int [ ")
        self.assertEqual(program_of_text(tight), sorter())

    def test_more_brackets_than_needed(self):
        self.assertEqual(expression("((@x)) + ((((3))))"), ("sum", X, I(3)))
        self.assertEqual(read("(@x) = 3", "(*@p) = 3", "((@p[1])) = 4", "*(@p + 1) = 5", "(*(@p)) = 6"),
                         (("let", "x", I(3)), ("store", Q, I(3)), ("store", ("on", Q, I(1)), I(4)), ("store", ("on", Q, I(1)), I(5)), ("store", Q, I(6))))
        self.assertEqual(expression("*(@p + @x)"), ("at", ("on", Q, X)))
        self.assertEqual(read("(@x) = ask(1, 2)", "(@x) = call f((1), @b)", "((@p)) = make int[(3)]", "if (1)", "end", "while(@x)", "end"),
                         (("ask", "x", 1, 2), ("call", "x", "f", (I(1), B)), ("make", "p", "int", I(3)), ("if", I(1), (), ()), ("while", X, ())))

    def test_sequence_of_lines(self):
        text = "lock z\nshared int b[1]\nlock a\nfunction f()\nint x\nend\nshared byte a[16]\nbody f\n@x = *$b\nend\nfunction e()\nend\nthread f\nthread e\nthread f"
        made = program_of_text(text)
        self.assertEqual(tree_of(made), ((("a", "byte", 16), ("b", "int", 1)), ("a", "z"), (
            ("f", (), (("x", "int"),), (), "none", (("let", "x", ("at", ("shared", "b"))),)), ("e", (), (), (), "none", ())), ("f", "e", "f")))

    def test_words_like_those_of_the_language(self):
        text = """shared int shared[1]
lock lock
function body(int end, byte byte) gives int
  int int
  int gives[1]
end
function function()
  int ask
end
body body
  @end = *$shared
  @int = &gives[0]
  *&gives = call body(@int, byte(@end))
  return @end
end
body function
  @ask = call body(1, byte 3)
  take lock
  if @ask
  else
    give @ask
  end
end
thread function"""
        with self.assertRaises(BadText) as caught:
            program_of_text(text)
        self.assertEqual((caught.exception.line, caught.exception.reason), (12, "form"))
        made = program_of_text(text.replace("*&gives = call", "@int = call"))
        self.assertEqual(made.functions[0][1], (("end", "int"), ("byte", "byte")))
        self.assertEqual(text_of(made), text.replace("*&gives = call", "@int = call"))

    def test_ints(self):
        for text, number in (("0", 0), ("- 5", -5), ("-2147483648", -(2 ** 31)), ("2147483647", 2 ** 31 - 1)):
            self.assertEqual(expression(text), I(number))
        self.assertEqual(expression("@x -1"), ("less", X, I(1)))
        self.assertEqual(expression("@x--1"), ("less", X, I(-1)))
        self.assertEqual(expression("-1-1"), ("less", I(-1), I(1)))

    def test_kinds_of_errors(self):
        for thing in (None, 5, b"", ["lock k"], True):
            for call in (program_of_text, wrong_lines, mended, statement_lines):
                with self.assertRaises(BadText) as caught:
                    call(thing)
                self.assertEqual((caught.exception.line, caught.exception.reason), (None, "form"))
        self.assertEqual(program_of_text(text="lock k"), mended(text="lock k"))
        self.assertEqual((wrong_lines(text=""), statement_lines(text="")), ([], []))


class Wrong(unittest.TestCase):
    """Each reason of point 27, at its line."""

    def one(self, text, line, reason):
        """The first wrong line."""
        with self.assertRaises(BadText) as caught:
            program_of_text(text)
        self.assertEqual((caught.exception.line, caught.exception.reason), (line, reason), text.split("\n")[min(line, text.count("\n"))])
        self.assertEqual(wrong_lines(text)[0], (line, reason))
        self.assertRaises(BadText, statement_lines, text)
        # Without it the text goes on.
        lines = text.split("\n")
        if reason != "end":
            self.assertEqual([(at, why) for at, why in wrong_lines("\n".join(lines[:line] + [""] + lines[line + 1:]))], wrong_lines(text)[1:])

    def in_body(self, reason, *lines):
        for line in lines:
            self.one(with_body("give 1", line), FIRST + 1, reason)

    def outside(self, reason, *lines):
        for line in lines:
            self.one(HEAD + "\n" + line, FIRST - 1, reason)

    def in_head(self, reason, *lines):
        for line in lines:
            self.one("function h(int a)\nint c\nint d[2]\n" + line + "\nend", 3, reason)

    def test_form_of_tokens(self):
        self.in_body("form", "give @abcdefghijklm", "give 01", "give 12345678901", "give 1.", "give @X", "give 'x'", "give @x;", "give\t1", "give >1",
                     "give 1 # remark", "give 1\r", "give @x_y", "give {1}", "give \u0661", "give \u00e9", "give !@x", "@x == 3", "@x = = 3", "@x === 3",
                     "give 00", "give @", "give $", "give &", "give *", "give 1 2", "give @x @y", "\u00a0", "gi ve 1")
        # Tokens need no blanks between them.
        self.assertEqual(read("give1", "  take   k  "), (("give", I(1)), ("take", "k")))

    def test_form_of_expressions(self):
        self.in_body("form", "give", "give ()", "give (1", "give 1)", "give (1]", "give @x < @y == 1", "give @x == @y == 1", "give @x < @y < 1",
                     "give @x == not @y", "give 1 + not 1", "give not", "give 1 +", "give + 1", "give 1 and", "give and 1", "give 1 not 1", "give -0",
                     "give --1", "give -@x", "give -(1)", "give 2147483648", "give -2147483649", "give byte 256", "give byte -1", "give byte", "give byte @x",
                     "give int 5", "give int", "give null", "give null()", "give null(int**)", "give null(@p)", "give null(x)", "give int()", "give byte()",
                     "give @p[]", "give @p[1", "give [1]", "give @p[1)", "give @1", "give @@x", "give @(x)", "give f()", "give f(1)", "give foo(1)", "give make(1)", "give not(", "give f(1) + 2", "give call f(1, @b)", "give ask(1, 2)",
                     "give @x = 1", "give 1,", "give 1 or or 1", "give * * ", "give @x rest", "give @x / * ", "give rest 1", "give @p[1, 2]")

    def test_form_of_statements(self):
        self.in_body("form", "@x", "@x =", "= 1", "3 = 1", "$s = 1", "&m = @p", "null(int) = 1", "@x + 1 = 2", "not @x = 1", "int(@b) = 1", "byte 3 = @b",
                     "@p + 1 = @p", "*@p = make int[1]", "*@p = ask(1, 2)", "*@p = call f(1, @b)", "@p[0] = ask(1, 2)", "@p = make[1]", "@p = make int",
                     "@p = make int[]", "@p = make int 3", "@r = make int**[1]", "@p = make void[1]", "@p = make int(3)", "@x = ask()", "@x = ask(1)",
                     "@x = ask(1, 2, 3)", "@x = ask(2, 1)", "@x = ask(@y, 2)", "@x = ask(0, 2147483648)", "@x = ask(-2147483649, 0)", "@x = ask(-0, 1)",
                     "@x = ask 1, 2", "@x = call f", "@x = call (1)", "@x = call f(1, @b", "@x = call f(1,)", "@x = call f(,1)", "call f 1", "call", "call f",
                     "call f(1 @b)", "away", "away @p @p", "take", "take @k", "leave 1", "take k k", "return 1 2", "return return", "if", "while", "if 1 then",
                     "else", "else 1", "end end", "end if", "lock j", "shared int z[1]", "function h()", "body g", "thread main", "int z", "x = 1", "goto x",
                     "give 1 give 1", "@x = @y = 1")

    def test_form_of_other_lines(self):
        self.outside("form", "shared int z", "shared int z[]", "shared int z[0]", "shared int z[17]", "shared int** z[1]", "shared z[1]", "shared void z[1]",
                     "shared int [1]", "shared int 5[1]", "shared int z[1] 1", "shared int z[-1]", "shared int z[@x]", "lock", "lock 5", "lock a b", "lock Z",
                     "function h", "function h(", "function h)", "function (int a)", "function h(a)", "function h(int)", "function h(int a,)",
                     "function h(,int a)", "function h(int a int b)", "function h(int*** a)", "function h() gives", "function h() gives none",
                     "function h() gives int***", "function h() int", "function h() gives void", "function h(int a[1])", "body", "body 5", "body f g", "thread",
                     "thread main main", "thread 1", "end", "else", "int x", "@x = 1", "give 1", "return", "gives", "shared")
        self.in_head("form", "int", "int*** z", "void z", "z", "int z y", "int z[]", "int z[0]", "int z[9]", "int** z[1]", "int z[1][1]", "int 5", "end end",
                     "lock j", "body h", "function g()", "give 1", "@a = 1", "thread h", "shared int z[1]", "else", "int z[1", "int z(1)", "int @z")

    def test_else_belongs_to_the_first_body_of_an_if(self):
        self.one(with_body("while 1", "else", "end"), FIRST + 1, "form")
        self.one(with_body("if 1", "else", "else", "end"), FIRST + 2, "form")
        self.one(with_body("else"), FIRST, "form")
        self.assertEqual(read("if 1", "if 0", "else", "end", "else", "give 1", "end"), (("if", I(1), (("if", I(0), (), ()),), (("give", I(1)),)),))

    def test_word(self):
        self.in_body("word", "give @z", "give $x", "give &x", "give @m", "give &s", "give $m", "@z = 1", "*$z = 1", "give @x + (3 * &z[1])", "@z = make int[1]",
                     "@z = ask(1, 2)", "@z = call f(1, @b)", "@x = call h(1)", "call h()", "@x = call f(@z)", "take j", "leave s", "if @z", "while @z",
                     "return @z", "away @z", "give @a", "@m = 1", "call k()")
        self.outside("word", "shared int s[1]", "shared byte t[3]", "lock k", "function f()", "function main(int a)", "function h(int a, int a)", "body h",
                     "thread h", "thread f", "body k", "thread s")
        self.in_head("word", "int a", "int c", "int d", "int a[1]", "int c[1]", "byte d[8]")
        self.one(HEAD + "\nbody f\nend\nbody f\nend", FIRST + 1, "word")
        # What is told behind it does not count.
        self.one("thread f\nfunction f()\nend", 0, "word")
        self.one("function f()\nend\nbody f\ngive *$s\nend\nshared int s[1]", 3, "word")
        self.one("function f()\nend\nbody f\ncall g()\nend\nfunction g()\nend", 3, "word")
        # Words of unlike classes may be alike, and words of other functions.
        program_of_text("shared int f[1]\nlock f\nfunction f(int f)\nend\nfunction g(int f)\nint a\nend\nfunction h()\nint a\nend")

    def test_sort(self):
        self.in_body("sort", "give @b", "give @p", "give null(int)", "give byte 1", "@x = @b", "@b = 1", "@p = @q", "@p = null(byte)", "*@p = @b", "*@x = 1",
                     "@x[1] = 1", "@p[@b] = 1", "@p[1] = @p", "*$t = @p + @b", "give @x + @b", "give @x + @p", "give @p + @p", "give @b + @x", "give @p - @q",
                     "give @p - 1", "give @x - @p", "give @p * 2", "give 2 * @p", "give @b / @x", "give @p rest @p", "give @x == @b", "give @p == @q",
                     "give @p == @r", "give @x < @p", "give not @b", "give @x and @b", "give @p or @x", "give int(@x)", "give int(@p)", "give byte(@x)",
                     "give int(byte(@b))", "give *@x", "give *@b", "give **@p", "give *@r", "give @x[1]", "give @p[@p]", "give $t[0]", "@p = make byte[1]",
                     "@q = make int[1]", "@x = make int[1]", "@p = make int*[1]", "@r = make int[1]", "@p = make int[@b]", "@p = make int[@p]", "@b = ask(1, 2)",
                     "@p = ask(1, 2)", "@b = call f(1, @b)", "@p = call f(1, @b)", "@x = call f(1)", "@x = call f()", "@x = call f(1, @b, 1)",
                     "@x = call f(@b, @b)", "@x = call f(1, 1)", "@x = call g()", "call f(1)", "call g(1)", "away @x", "away @b", "if @b", "while @p", "return 1")
        self.one(HEAD + "\nbody f\nreturn\nend", FIRST, "sort")
        self.one(HEAD + "\nbody f\nreturn @b\nend", FIRST, "sort")
        program_of_text(HEAD + "\nbody f\nreturn @a\ncall g()\ncall f(1, @b)\nend")
        # A call of a function with a result needs no local.
        self.assertEqual(read("call f(1, @b)"), (("call", "", "f", (I(1), B)),))

    def test_first_reason_counts(self):
        self.in_body("form", "give @z +", "@z = ask(2, 1)", "give @z + byte 256")
        self.in_body("word", "give @b + @z", "@x = call f(@z, 1, 2)", "@b = call h()", "give *@x + &z")
        text = with_body(*["if @x"] * 5 + ["if @b"])
        self.assertEqual(wrong_lines(text)[0], (FIRST + 5, "sort"))

    def test_many_of_what_is_told(self):
        words = ["w" + c for c in "abcdefghijklmnop"]
        for most, line in ((8, "shared int {}[1]"), (4, "lock {}"), (12, "function {}()\nend")):
            lines = [line.format(word) for word in words]
            size = lines[0].count("\n") + 1
            program_of_text("\n".join(lines[:most]))
            self.assertEqual(wrong_lines("\n".join(lines[:most + 1]))[0], (most * size, "many"))
        params = ", ".join("int " + word for word in words[:6])
        program_of_text(f"function f({params})\nend")
        self.one(f"function f({params}, int z)\n\n\n", 0, "many")
        self.one(f"function f({params}, int wa)", 0, "word")
        head = "function f(int a)\n"
        program_of_text(head + "\n".join("int " + word for word in words[:8]) + "\nend")
        self.one(head + "\n".join("int " + word for word in words[:9]) + "\nend", 9, "many")
        program_of_text(head + "\n".join(f"int {word}[8]" for word in words[:3]) + "\nend")
        self.one(head + "\n".join(f"int {word}[8]" for word in words[:4]) + "\nend", 4, "many")
        threads = "function f()\nend" + "\nthread f" * 4
        program_of_text(threads)
        self.one(threads + "\nthread f", 6, "many")
        # A 13th function's head is no head: its lines have no form.
        heads = "\n".join(f"function {word}()\nend" for word in words[:12])
        self.assertEqual(wrong_lines(heads + "\nfunction z()\nint x\nend\nthread wa"), [(24, "many"), (25, "form"), (26, "form")])

    def test_many_bodies(self):
        for word in ("if", "while"):
            self.assertEqual(len(read(*[word + " 1"] * 5 + ["end"] * 5)), 1)
            self.one(with_body(*[word + " 1"] * 6 + ["end"] * 5), FIRST + 5, "many")
        self.assertEqual(len(read(*["if 1"] * 5 + ["else", "give 1"] + ["end"] * 5)), 1)
        self.one(with_body(*["if 1"] * 5 + ["else", "while 1"] + ["end"] * 5), FIRST + 6, "many")

    def test_many_nodes(self):
        # take is one node, give 1 are two, @p[1] = 2 is five (no "at"), a = with an E[E] four more.
        self.assertEqual(len(read(*["take k"] * 300)), 300)
        self.one(with_body(*["take k"] * 301), FIRST + 300, "many")
        self.one(with_body(*["take k"] * 299 + ["give 1", "take k"]), FIRST + 299, "many")
        self.assertEqual(len(read(*["take k"] * 295 + ["@p[1] = 2"])), 296)
        self.one(with_body(*["take k"] * 296 + ["@p[1] = 2"]), FIRST + 296, "many")
        self.assertEqual(len(read(*["take k"] * 295 + ["give @p[1]"])), 296)
        self.one(with_body(*["take k"] * 296 + ["give @p[1]"]), FIRST + 296, "many")
        self.assertEqual(len(read(*["take k"] * 298 + ["if 1", "else", "end"])), 299)
        self.one(with_body(*["take k"] * 299 + ["if 1"]), FIRST + 299, "many")
        self.one(with_body(*["take k"] * 297 + ["if 1", "take k", "take k", "end"]), FIRST + 299, "many")
        # Each function counts for itself; so does what stands behind.
        program_of_text(with_body(*["take k"] * 300) + "\nbody g\n" + "take k\n" * 300 + "end")

    def test_edges_of_expressions(self):
        self.assertEqual(expression("+".join(["1"] * 12))[0], "sum")
        self.in_body("form", "give " + "+".join(["1"] * 13), "give " + "not " * 12 + "1", "give " + "+".join(["1"] * 5000), "give " + "not " * 5000 + "1",
                     "give " + "*" * 12 + "@p", "give " + "*" * 5000 + "@p", "*" * 5000 + "@p = 1")
        for leaf in ("1", "@x", "(@x)", "-3"):
            expression("not " * 11 + leaf)
            self.in_body("form", "give " + "not " * 12 + leaf)
        for leaf in ("byte 1", "@b"):
            expression("not " * 10 + f"int({leaf})")
            self.in_body("form", "give " + "not " * 11 + f"int({leaf})")
        for leaf in ("$s", "&m", "@p", "null(int)"):
            expression("not " * 10 + f"*{leaf}")
            self.in_body("form", "give " + "not " * 11 + f"*{leaf}")
        # E[E] is two deeper than its parts.
        for text in ("@p[" + "not " * 9 + "1]", "*(@p + (" + "not " * 9 + "1))"):
            self.assertEqual(expression(text)[0], "at")
        self.in_body("form", "give @p[" + "not " * 10 + "1]", "give " + "@p[" * 6 + "1" + "]" * 6)
        # The pointer of a line with = may be 12 deep.
        self.assertEqual(read("@p[" + "not " * 10 + "1] = 1")[0][0], "store")
        self.in_body("form", "@p[" + "not " * 11 + "1] = 1", "(@p[" + "not " * 11 + "1]) = 1")

    def test_edges_of_brackets(self):
        self.assertEqual(expression("(" * 12 + "1" + ")" * 12), I(1))
        self.in_body("form", "give " + "(" * 13 + "1" + ")" * 13, "give " + "(" * 5000 + "1" + ")" * 5000, "@p = make int[" + "(" * 12 + "1" + ")" * 12 + "]",
                     "@x = call f(" + "(" * 12 + "1" + ")" * 12 + ", @b)", "give @p[" + "(" * 12 + "1" + ")" * 12 + "]")
        self.assertEqual(read("@p = make int[" + "(" * 11 + "1" + ")" * 11 + "]", "@x = call f(" + "(" * 11 + "1" + ")" * 11 + ", @b)")[0][3], I(1))
        # Only those open at once count, whatever was closed ahead.
        self.in_body("form", "give (1) + (2) + " + "(" * 13 + "1" + ")" * 13)
        self.assertEqual(expression("+".join(["((((((((((((1))))))))))))"] * 5))[0], "sum")

    def test_edges_of_numbers_and_words(self):
        self.assertEqual(program_of_text("shared int a[1]\nshared int abcdefghijkl[16]").shared[1], ("abcdefghijkl", "int", 16))
        self.one("shared int abcdefghijklm[1]", 0, "form")
        self.assertEqual(expression("1000000000"), I(10 ** 9))
        self.in_body("form", "give 10000000000", "give 9999999999")
        self.assertEqual(program_of_text("function f()\nint m[1]\nint n[8]\nend").functions[0][3], (("m", "int", 1), ("n", "int", 8)))
        self.assertEqual(expression("int(byte 0)"), ("wide", ("byte", 0)))

    def test_end(self):
        for text, line in (("function f()", 1), ("function f()\nend\nbody f", 3), ("function f()\nend\nbody f\nif 1\nend", 5), ("function f()\n\n# x\n", 4),
                           ("function f()\nint x\nend\nbody f\nwhile @x\nif @x\nelse", 7)):
            self.one(text, line, "end")
            self.assertEqual(wrong_lines(text), [(line, "end")])
        self.assertEqual(wrong_lines("function f()\nfoo\nint x"), [(1, "form"), (3, "end")])


class WrongLines(unittest.TestCase):
    def test_wrong_ones_behind_wrong_ones(self):
        text = with_body("give @z", "if @b", "give 1", "else", "end", "while", "@x = 1")
        # The "if" is wrong: its "else" has no form, its "end" ends the body.
        at = FIRST
        self.assertEqual(wrong_lines(text), [(at, "word"), (at + 1, "sort"), (at + 3, "form"), (at + 5, "form"), (at + 6, "form"), (at + 7, "form")])
        self.assertEqual(mended(text).functions[2][5], (("give", I(1)),))
        self.assertEqual(wrong_lines("lock a\nlock a\nlock b\nlock b\nlock c\nlock d\nlock e\nlock a"),
                         [(1, "word"), (3, "word"), (6, "many"), (7, "word")])
        self.assertEqual(mended("lock a\nlock a\nlock b\nlock b\nlock c\nlock d\nlock e\nlock a").locks, ("a", "b", "c", "d"))

    def test_mended_ends_what_is_open(self):
        made = mended("function f()\nint x\nend\nbody f\n@x = 1\nwhile @x\nif @x\nelse\n@x = 0\n?")
        self.assertEqual(made.functions[0][5], (("let", "x", I(1)), ("while", X, (("if", X, (), (("let", "x", I(0)),)),))))
        self.assertEqual(mended("function f()\nint x"), program_of_text("function f()\nint x\nend"))
        self.assertEqual(mended("function f()\nend\nbody f"), program_of_text("function f()\nend"))

    def broken(self, dice, text):
        """A text with something changed in it."""
        lines = text.split("\n")
        for _ in range(dice.randint(1, 3)):
            at = dice.randrange(len(lines))
            deed = dice.randrange(6)
            if deed == 0:
                del lines[at]
                lines = lines or [""]
            elif deed == 1:
                lines.insert(at, dice.choice(lines + ["end", "else", "give 1", "if 1", "thread main", "body main", "lock k", "int e"]))
            elif deed == 2:
                other = dice.randrange(len(lines))
                lines[at], lines[other] = lines[other], lines[at]
            elif deed == 3 and lines[at]:
                spot = dice.randrange(len(lines[at]))
                lines[at] = lines[at][:spot] + dice.choice("@$&,()[]+-*/<= ax09?") + lines[at][spot + dice.randrange(2):]
            elif deed == 4:
                tokens = lines[at].split(" ")
                tokens.insert(dice.randrange(len(tokens) + 1), dice.choice(["@a", "1", "not", "*", "+", "(", ")", "byte", "null(int)", "@p", "=", "rest"]))
                lines[at] = " ".join(tokens)
            else:
                lines[at] = lines[at][:dice.randrange(len(lines[at]) + 1)]
        return "\n".join(lines)

    def ends(self, lines):
        """So many ends as blocks are open behind lines that are not wrong."""
        text, many = "\n".join(lines), 0
        while wrong_lines(text)[-1:] and wrong_lines(text)[-1][1] == "end":
            text += "\nend"
            many += 1
        return ["end"] * many

    def test_viable_beginnings(self):
        """Each wrong line is judged as if the wrong ones ahead were not there; the lines ahead are a beginning."""
        dice = random.Random(7)
        texts = [text_of(made) for made in programs(12)] + [tally_text(), sorter_text(), spill_text(), with_body("give 1", "if @x", "else", "end")]
        reasons = set()
        for number in range(150):
            text = self.broken(dice, dice.choice(texts))
            wrong = wrong_lines(text)
            lines = text.split("\n")
            self.assertEqual([at for at, _ in wrong], sorted({at for at, _ in wrong}))
            reasons |= {reason for _, reason in wrong}
            if wrong == []:
                self.assertEqual(mended(text), program_of_text(text))
                continue
            with self.assertRaises(BadText) as caught:
                program_of_text(text)
            self.assertEqual((caught.exception.line, caught.exception.reason), wrong[0])
            left_out = {at for at, _ in wrong}
            kept = ["" if at in left_out else line for at, line in enumerate(lines)]
            for at, reason in wrong[:4]:
                if reason == "end":
                    self.assertEqual(at, len(lines))
                    continue
                # The lines ahead, with an end for each block that is open, are a program's.
                ahead = kept[:at]
                program_of_text("\n".join(ahead + self.ends(ahead)))
                self.assertEqual(wrong_lines("\n".join(ahead + [lines[at]]))[0], (at, reason))
                # Whatever follows, it is wrong.
                for more in (["end"], ["end"] * 3, ["else", "end"], []):
                    self.assertEqual(wrong_lines("\n".join(ahead + [lines[at]] + more))[0], (at, reason))
            self.assertEqual(mended(text), program_of_text("\n".join(kept + self.ends(kept))))
        self.assertLessEqual({"form", "word", "sort", "end"}, reasons)

    def test_any_string(self):
        dice = random.Random(3)
        pieces_of = ["shared", "int", "byte", "lock", "function", "body", "thread", "end", "if", "else", "while", "give", "@", "$", "&", "a", "b", "(", ")", "[",
                     "]", "1", "2", "=", "==", "*", "+", "-", "not", "and", "null", "\n", "\n", "\n", " ", ",", "gives", "call", "make", "ask", "\t", "\u1234",
                     "\ud800", "\x00", "return", "#"]
        for _ in range(400):
            text = "".join(dice.choice(pieces_of) + dice.choice(("", " ")) for _ in range(dice.randrange(60)))
            made = mended(text)
            self.assertEqual(program_of_text(text_of(made)), made)
            self.assertEqual(wrong_lines(text) == [], self.reads(text))
        for text in (with_body("give " + "9" * 10 ** 5), with_body("give 1" + "0" * 5000), "(" * 10 ** 5, "give " * 10 ** 4, "[" * 10 ** 5, "a" * 10 ** 6, "9" * 10 ** 6, "\n" * 1000, with_body("give " + "-" * 10 ** 4)):
            mended(text)

    def reads(self, text):
        try:
            program_of_text(text)
            return True
        except BadText:
            return False


class StatementLines(unittest.TestCase):
    def test_by_hand(self):
        text = "function f()\nint x\nend\nfunction g()\nend\nbody g\n# none\n\ncall f()\nend\nbody f\nif @x\ngive 1\n\ngive 2\nelse\nwhile @x\ngive 3\nend\nend\nreturn\nend"
        self.assertEqual(statement_lines(text), [(8, 1, (0,)), (11, 0, (0,)), (12, 0, (0, 2, 0)), (14, 0, (0, 2, 1)), (16, 0, (0, 3, 0)),
                                                 (17, 0, (0, 3, 0, 2, 0)), (20, 0, (1,))])
        self.assertEqual(statement_lines(tally_text())[0], (7, 0, (0,)))
        self.assertIsInstance(statement_lines(tally_text()), list)

    def test_against_pieces(self):
        words = ("let", "store", "make", "away", "ask", "give", "if", "while", "call", "return", "take", "leave")
        for made in programs(60) + [spill(), tally(), sorter()]:
            text = text_of(made)
            lines = text.split("\n")
            told = statement_lines(text)
            self.assertEqual([line for line, _, _ in told], sorted({line for line, _, _ in told}))
            for number in range(len(made.functions)):
                places = [place for place, piece in pieces(made, number) if piece[0] in words]
                self.assertEqual([place for _, function, place in told if function == number], places)
            for line, number, place in told:
                piece = dict(pieces(made, number))[place]
                if piece[0] in ("if", "while", "give", "away", "take", "leave", "return", "call") and piece[1:2] != ("",) and piece[0] != "call":
                    self.assertEqual(lines[line].split()[0], piece[0])

    def test_errors(self):
        with self.assertRaises(BadText) as caught:
            statement_lines("lock a\nfoo\nfunction f()")
        self.assertEqual((caught.exception.line, caught.exception.reason), (1, "form"))
        with self.assertRaises(BadText) as caught:
            statement_lines("function f()")
        self.assertEqual((caught.exception.line, caught.exception.reason), (1, "end"))


class Examples(unittest.TestCase):
    """The facts of point 29 about the three texts."""

    def to_the_end(self, made, inputs, seed):
        """The weaving of a whole run."""
        return weaving_of(begun(made), inputs, 2000, seed)

    def test_tally(self):
        made = program_of_text(tally_text())
        for seed in range(40):
            weaving = self.to_the_end(made, [], seed)
            moments, _ = run(begun(made), [], weaving)
            self.assertTrue(all(moment.wrong is None for moment in moments))
            self.assertEqual(moments[-1].stacks, ((), ()))
            self.assertEqual(moments[-1].memory[0], ("shared", "int", (6,)))
            self.assertEqual(moments[-1].given[-1], 6)

    def test_sorter(self):
        made = program_of_text(sorter_text())
        dice = random.Random(5)
        for many in list(range(1, 17)) + [1, 2, 5, 16]:
            ints = [dice.choice((0, 1, -1, 7, 2 ** 31 - 1, -(2 ** 31), dice.randint(-99, 99))) for _ in range(many)]
            last = run(begun(made), [many] + ints, self.to_the_end(made, [many] + ints, 0))[0][-1]
            self.assertEqual((last.wrong, last.stacks), (None, ((),)))
            self.assertEqual(last.given, tuple(sorted(ints)))
            self.assertEqual(last.memory, {})

    def test_spill(self):
        made = program_of_text(spill_text())
        lines = spill_text().split("\n")
        for many in range(10):
            for more in (0, 1):
                weaving = self.to_the_end(made, [many, more], 0)
                told = first_wrong(begun(made), [many, more], weaving)
                if many < 4:
                    self.assertEqual(told, (4 + 3 * many, 0, "unset"))
                elif many > 4:
                    self.assertEqual(told, (16, 0, "beyond"))
                elif more == 1:
                    self.assertEqual(told, (20, 0, "gone"))
                else:
                    self.assertIsNone(told)
                    self.assertEqual(run(begun(made), [many, more], weaving)[0][-1].stacks, ((),))
                    continue
                # At which line it goes wrong: the statement that its thread is at.
                moment = run(begun(made), [many, more], weaving[:told[0]])[0][-1]
                statement = moment.stacks[0][-1][1][0]
                places = [place for place, piece in pieces(made, 0) if piece == statement]
                found = [lines[line].strip() for line, _, place in statement_lines(spill_text()) if place in places]
                self.assertEqual(found, [{"unset": "give @row[3]", "beyond": "@row[@spot] = @spot", "gone": "give *@row"}[told[2]]])


if __name__ == "__main__":
    unittest.main()
