import copy
import unittest

from backrun.errors import TextError
from backrun.faults import faults
from backrun.text import read_program, show_expression, show_program
from tests.samples import (
    COUNTING, FIBONACCI, SKIP, TURNING, Maker, cell, minus, nested_ifs, nested_nots, num, plus, program, var, xor,
)

EVERYTHING = (16, (("a", 0), ("b_2", 0), ("r", 4), ("s", 256)), (
    ("main", (), (
        plus("a", num(65535)),
        ("minus", cell("r", var("a")), var("b_2")),
        xor("b_2", cell("s", cell("r", num(0)))),
        ("swap", var("a"), cell("r", ("not", var("b_2")))),
        ("call", "p", ("a", "r")),
        ("uncall", "q", ()),
        SKIP,
        ("if", ("less", var("a"), num(3)), (SKIP, plus("a", num(1))), (
            ("loop", ("equal", var("a"), num(0)), (SKIP,), (("local", "t", num(7), (plus("t", num(0)),), num(7)),), num(1)),
        ), ("not", ("not", var("a")))),
    )),
    ("p", (("x", 0), ("m", 4)), (("if", num(1), (), (), num(1)), ("loop", num(1), (), (), num(1)),
                                 ("local", "x2", num(0), (), num(0)))),
    ("q", (), ()),
))

EVERYTHING_TEXT = """width 16
vars a b_2 r[4] s[256]
proc main()
  a += 65535
  r[a] -= b_2
  b_2 ^= s[r[0]]
  a <=> r[!b_2]
  call p(a, r)
  uncall q()
  skip
  if (a < 3) then
    skip
    a += 1
  else
    from (a = 0) do
      skip
    loop
      local t = 7 in
        t += 0
      delocal t = 7
    until 1
  fi !!a
end
proc p(x, m[4])
  if 1 then
  else
  fi 1
  from 1 do
  loop
  until 1
  local x2 = 0 in
  delocal x2 = 0
end
proc q()
end
"""

SIGNS = {"add": "+", "sub": "-", "mul": "*", "and": "&", "or": "|", "xor": "^", "less": "<", "equal": "=",
         "shl": "<<", "shr": ">>"}


def read_main(body):
    """The body of main that is read from its text."""
    made = read_program("width 8 vars a b r[4] proc main() " + body + " end")
    return made[2][0][2]


class Showing(unittest.TestCase):
    def test_sign_by_sign(self):
        self.assertEqual(show_program(EVERYTHING), EVERYTHING_TEXT)
        self.assertEqual(faults(EVERYTHING), [])

    def test_the_smallest(self):
        self.assertEqual(show_program((1, (), (("main", (), ()),))), "width 1\nvars\nproc main()\nend\n")
        self.assertEqual(show_program((32, (("a", 1),), (("main", (), (SKIP,)),))),
                         "width 32\nvars a[1]\nproc main()\n  skip\nend\n")

    def test_expressions(self):
        for op, sign in SIGNS.items():
            self.assertEqual(show_expression((op, var("a"), num(10))), "(a " + sign + " 10)")
        self.assertEqual(show_expression(num(0)), "0")
        self.assertEqual(show_expression(var("a_1")), "a_1")
        self.assertEqual(show_expression(cell("r", num(2))), "r[2]")
        self.assertEqual(show_expression(("not", ("not", cell("r", ("not", var("a")))))), "!!r[!a]")
        e = ("add", ("sub", num(1), ("not", ("mul", num(2), num(3)))), cell("r", ("shl", var("a"), num(4))))
        self.assertEqual(show_expression(e), "((1 - !(2 * 3)) + r[(a << 4)])")

    def test_nothing_is_changed(self):
        before = copy.deepcopy(EVERYTHING)
        show_program(EVERYTHING)
        self.assertEqual(EVERYTHING, before)


class Reading(unittest.TestCase):
    def test_there_and_back(self):
        for made in (EVERYTHING, FIBONACCI, COUNTING, TURNING, program(()), (1, (), (("main", (), ()),))):
            self.assertEqual(read_program(show_program(made)), made)
        for seed in range(200):
            made = Maker(seed).program()
            self.assertEqual(read_program(show_program(made)), made)

    def test_twenty_deep(self):
        for body in (nested_ifs(20), nested_ifs(19, (plus("a", nested_nots(20)),)),
                     (("plus", cell("r", nested_nots(19)), num(0)),)):
            made = program(body)
            self.assertEqual(faults(made), [])
            self.assertEqual(read_program(show_program(made)), made)

    def test_blanks_line_feeds_and_remarks(self):
        self.assertEqual(read_program(EVERYTHING_TEXT.replace("\n", " ")), EVERYTHING)
        self.assertEqual(read_program(EVERYTHING_TEXT.replace(" ", "\n\n  ")), EVERYTHING)
        self.assertEqual(read_program(EVERYTHING_TEXT.replace("\n", " # end $ \t \u00e4 # if\n#\n")), EVERYTHING)
        self.assertEqual(read_program("# first\n\n  " + EVERYTHING_TEXT + "  # last"), EVERYTHING)
        spread = EVERYTHING_TEXT
        for sign in ("(", ")", "[", "]", ",", "!", "<=>", "+=", "-=", "^="):
            spread = spread.replace(sign, " # x\n " + sign + "\n ")
        self.assertEqual(read_program(spread), EVERYTHING)

    def test_no_more_blanks_than_needed(self):
        text = "width 8 vars a b r[4]proc main()a+=(1+2)b<=>r[a]a^=!b r[0]-=1 if a then skip else fi a call p(a,b)end"
        self.assertEqual(read_program(text + " proc p(x,y)end"), program((
            plus("a", ("add", num(1), num(2))), ("swap", var("b"), cell("r", var("a"))), xor("a", ("not", var("b"))),
            ("minus", cell("r", num(0)), num(1)), ("if", var("a"), (SKIP,), (), var("a")), ("call", "p", ("a", "b")),
        ), procedures=(("p", (("x", 0), ("y", 0)), ()),)))

    def test_the_longest_token(self):
        self.assertEqual(read_main("a<=>b"), (("swap", var("a"), var("b")),))
        self.assertEqual(read_main("a+=(b<<1)"), (plus("a", ("shl", var("b"), num(1))),))
        self.assertEqual(read_main("a+=(b<1)"), (plus("a", ("less", var("b"), num(1))),))
        self.assertEqual(read_main("a+=(b+1)"), (plus("a", ("add", var("b"), num(1))),))
        self.assertEqual(read_main("a-=(b>>1)"), (minus("a", ("shr", var("b"), num(1))),))
        self.assertEqual(read_main("a^=(b^!1)"), (xor("a", ("xor", var("b"), ("not", num(1)))),))
        self.assertEqual(read_main("local t=(a=b)in delocal t=1"),
                         (("local", "t", ("equal", var("a"), var("b")), (), num(1)),))
        self.assertEqual(read_main("skips += ifa"), (plus("skips", var("ifa")),))
        self.assertEqual(read_main("a += b0_"), (plus("a", var("b0_")),))

    def test_numbers(self):
        for word in (0, 7, 10, 256, 4294967295, 9999999999):
            self.assertEqual(read_main("a += " + str(word)), (plus("a", num(word)),))
        self.assertEqual(read_program("width 0 vars"), (0, (), ()))
        self.assertEqual(read_program("width 9999999999 vars a[9999999999]"), (9999999999, (("a", 9999999999),), ()))

    def test_no_errors_of_the_text_but_faults(self):
        for text, told in (
                ("width 33 vars proc main() end", [((), "width")]),
                ("width 8 vars", [((), "main")]),
                ("width 8 vars a a proc main() end", [((), "global")]),
                ("width 8 vars a[257] proc main() end", [((), "global")]),
                ("width 8 vars proc main() a += 1 end", [((0, 0), "unknown")]),
                ("width 8 vars a proc main() a += 256 end", [((0, 0), "statement")]),
                ("width 8 vars a proc main() a += a end", [((0, 0), "alias")]),
                ("width 8 vars a proc main() a[0] += 1 end", [((0, 0), "size")]),
                ("width 8 vars a proc main() local a = 1 in delocal a = 1 end", [((0, 0), "hides")]),
                ("width 8 vars proc main() call nobody(x, x) end", [((0, 0), "alias"), ((0, 0), "unknown")]),
                ("width 8 vars proc main(x) end", [((), "main")]),
                ("width 8 vars proc main() end proc p(x, x) end proc p() end", [((1,), "procedure")]),
                ("width 8 vars proc main() end proc main() end", [((), "main"), ((1,), "procedure")])):
            self.assertEqual(faults(read_program(text)), told, text)


HEAD = "width 8 vars a b r[4] "
MAIN = HEAD + "proc main() "


class Errors(unittest.TestCase):
    def refused(self, text, at):
        with self.assertRaises(TextError, msg=text) as caught:
            read_program(text)
        self.assertEqual(caught.exception.at, at, text)

    def refused_at(self, text):
        """The offset is marked by a @ that is taken out of the text."""
        self.refused(text.replace("@", ""), text.index("@"))

    def test_the_head(self):
        for text in ("@8 vars", "@vars", "@widths 8 vars", "width @vars", "width 8 @proc main() end",
                     "width @08 vars", "width @00 vars", "width @12345678901 vars", "width 8 @8 vars", "width 8 vars @8",
                     "width 8 @vars_", "width 8 vars @vars", "width 8 vars a @, b", "width 8 vars a[@]",
                     "width 8 vars a[@b]", "width 8 vars a[3 @a]", "width 8 vars a@]", "width 8 vars @[3]",
                     "width 8 vars a @width 8", "width 8 vars @end", "width 8 vars a[@03]", "width @!8 vars",
                     "width 8 vars a[3]@[3]", "width 8 vars @" + "a" * 21, "width 8 vars @_a", "width 8 vars @1a",
                     "width 8 vars a[@10000000000]", "width @width 8 vars", "@vars width 8"):
            self.refused_at(text)

    def test_procedures(self):
        for text in ("proc @() end", "proc @if() end", "proc p @end", "proc p(x @y) end", "proc p(@, x) end",
                     "proc p(x, @) end", "proc p(x, @, y) end", "proc p(x[@]) end", "proc p(x[2@) end", "proc p(@2) end",
                     "proc p(@end) end", "proc p() @proc q() end", "proc p() end @end", "proc p() end @skip",
                     "proc p() end @a", "proc p() @) end", "proc @proc p() end", "proc p(@() end", "proc p @q() end",
                     "proc @2() end", "proc p@[] end", "proc p(x[2]@[2]) end", "proc p(x@+= 1) end"):
            self.refused_at(HEAD + text)

    def test_statements(self):
        for body in ("@+= 1", "a @1 end", "a += @end", "a @end", "a @= 1", "a @+ 1", "a += @+= 1", "a += 1 @1",
                     "a @a += 1", "@1 += a", "r[@] += 1", "r[0 @+= 1", "r[0]@] += 1", "r[0]@[0] += 1", "a @< b",
                     "a @<< b", "a @<= b", "a <=> @1", "a <=> @(b)", "a <=> @!b", "a <=> @<=> b", "a <=> b @<=> b",
                     "@!a += 1", "@(a) += 1", "@loop", "@then", "@in", "@width", "@vars", "@do", "@else", "@fi 1",
                     "@until 1", "@delocal a = 1", "@" + "a" * 21 + " += 1", "@(a += 1)", "@, skip", "skip @, skip"):
            self.refused_at(MAIN + body + " end")

    def test_statements_with_bodies(self):
        for body in ("if @then else fi 1", "if 1 @skip else fi 1", "if 1 then @fi 1", "if 1 then else @else fi 1",
                     "if 1 then else skip @end", "if 1 @do else fi 1", "if 1 then @loop fi 1", "if 1 then else @until 1",
                     "if 1 then else fi @skip", "@then 1 then else fi 1", "from @do loop until 1",
                     "from 1 @then loop until 1", "from 1 do @until 1", "from 1 do @else until 1", "from 1 do loop @fi 1",
                     "from 1 do loop @end", "from 1 do loop until @skip", "@loop 1 do loop until 1",
                     "local @= 1 in delocal t = 1", "local t @1 in delocal t = 1", "local t = @in delocal t = 1",
                     "local t = 1 @delocal t = 1", "local t = 1 in @end", "local t = 1 in delocal @= 1",
                     "local t = 1 in delocal t @1", "local t = 1 in delocal t = @skip", "local t @+= 1 in delocal t = 1",
                     "local @in = 1 in delocal t = 1", "local t@[3] = 1 in delocal t = 1", "local @3 = 1 in delocal t = 1"):
            self.refused_at(MAIN + body + " end")

    def test_the_name_behind_delocal(self):
        for body in ("local t = 1 in delocal @u = 1", "local t = 1 in delocal @a = 1", "local t = 1 in delocal @tt = 1",
                     "local t = 1 in local u = 1 in delocal @t = 1 delocal u = 1"):
            self.refused_at(MAIN + body + " end")

    def test_calls(self):
        for body in ("call @(a)", "call @1(a)", "call @end()", "call p @a", "call p(a @b)", "call p(@, a)", "call p(a, @)",
                     "call p(@1)", "call p(a@[0])", "call p(@!a)", "call p(@(a))", "uncall @skip", "uncall p@[]",
                     "call @call p()", "call p(a)@)", "call p(a,@,b)", "call p(@end", "call p @end", "call p(a @end",
                     "call p(a, @end", "uncall @uncall p()"):
            self.refused_at(MAIN + body + " end")

    def test_expressions(self):
        for e in ("(@)", "(a@)", "(a @b)", "(a +@)", "(a + @+ b)", "(a + b @+ b)", "(@+ a)", "(a @! b)", "(a @+= b)",
                  "(a @<=> b)", "(a <@= b)", "(a =@= b)", "(a <<@< b)", "(a <!@)", "! @end", "@00", "@01", "@12345678901",
                  "@00000000000", "@1a", "@0x1", "@if", "r[ @end", "r[1 @end", "r[@]", "r[1@)", "r[1]@[2]", "(a@, b)",
                  "(a + b @end", "@-1", "@]", "@)", "1@)", "@,"):
            self.refused_at(MAIN + "a += " + e + " end")

    def test_a_part_in_parentheses_is_none(self):
        self.refused_at(MAIN + "a += (a@) end")
        self.refused_at(MAIN + "a += ((a@) + b) end")

    def test_signs_that_are_none(self):
        for sign in ("$", "\t", "\r", "@", "A", "\u00e4", "\u00b2", "\u0661", ">", ":", ";", ".", "'", "\"", "/", "\\", "~",
                     "%", "{", "}", "?", "\x00", "\u00a0", "\x0b", "\u2028"):
            self.refused(sign, 0)
            self.refused("width 8 vars " + sign + "a proc main() end", 13)
            self.refused("width 8 vars a proc main() end " + sign, 31)
            self.refused(MAIN + "a += " + sign, len(MAIN) + 5)
            self.refused(MAIN + "a += (1 " + sign + " 1) end", len(MAIN) + 8)
            self.refused(MAIN + "a" + sign + " += 1 end", len(MAIN) + 1)

    def test_the_first_token_that_is_wrong(self):
        self.refused_at(MAIN + "a += @+ $ end")
        self.refused_at("width @width $")
        self.refused_at(MAIN + "a @$ += + end")

    def test_the_end_too_early(self):
        tokens = EVERYTHING_TEXT.split()
        for count in range(len(tokens)):
            text = " ".join(tokens[:count])
            # behind the globals, and behind the end of a procedure, the text may end
            if "proc" not in tokens[:count] and "vars" in tokens[:count] or tokens[:count][-1:] == ["end"]:
                read_program(text)
            else:
                self.refused(text, len(text))
                self.refused(text + " \n # rest", len(text) + 9)
        self.refused("", 0)
        self.refused(" \n", 2)
        self.refused("# width 8 vars", 14)

    def test_more_behind_the_end(self):
        self.refused_at(EVERYTHING_TEXT + "@end")
        self.refused_at(EVERYTHING_TEXT + " # x\n\n@1")
        self.refused_at(EVERYTHING_TEXT + "@" + EVERYTHING_TEXT)

    def test_statements_twenty_one_deep(self):
        for begin, last in (("if 1 then ", " else fi 1"), ("if 1 then else ", " fi 1"), ("from 1 do ", " loop until 1"),
                            ("from 1 do loop ", " until 1"), ("local t = 1 in ", " delocal t = 1")):
            self.assertEqual(len(read_program(MAIN + begin * 20 + last * 20 + " end")), 3)
            self.assertEqual(len(read_program(MAIN + begin * 19 + "skip" + last * 19 + " end")), 3)
            for inner in ("skip", "a += 1", "call p()", "if 1 then else fi 1"):
                self.refused_at(MAIN + begin * 20 + "@" + inner + last * 20 + " end")
            self.refused_at(MAIN + begin * 20 + "@" + begin * 500)

    def test_expressions_twenty_one_deep(self):
        for begin, last in (("!", ""), ("(", " + 1)"), ("r[", "]")):
            for statement, more in (("a += ", ""), ("if ", " then else fi 1"), ("local t = ", " in delocal t = 1"),
                                    ("from 1 do loop until ", ""), ("if 1 then else fi ", ""),
                                    ("from ", " do loop until 1"), ("local t = 1 in delocal t = ", "")):
                head = MAIN + statement
                self.assertEqual(len(read_program(head + begin * 19 + "1" + last * 19 + more + " end")), 3)
                for inner in ("1", "a", "r[1]", "!1", "(1 + 1)"):
                    self.refused_at(head + begin * 20 + "@" + inner + last * 20 + more + " end")
            self.refused_at(MAIN + "a += " + begin * 20 + "@" + begin * 500)

    def test_the_second_part_twenty_one_deep(self):
        self.assertEqual(len(read_program(MAIN + "a += " + "(1 + " * 19 + "1" + ")" * 19 + " end")), 3)
        self.refused_at(MAIN + "a += " + "(1 + " * 19 + "!@1" + ")" * 19 + " end")
        self.refused_at(MAIN + "a += " + "(1 + " * 19 + "(@1 + 1)" + ")" * 19 + " end")

    def test_places_twenty_one_deep(self):
        self.assertEqual(len(read_program(MAIN + "r[" + "!" * 18 + "1] += 1 end")), 3)
        self.refused_at(MAIN + "r[" + "!" * 19 + "@1] += 1 end")
        self.refused_at(MAIN + "a <=> r[" + "!" * 19 + "@1] end")

    def test_tokens_left_out_doubled_or_others(self):
        # whatever stands in the place of a token: all ahead of it can still stand there
        spaced = EVERYTHING_TEXT
        for sign in "()[],!":
            spaced = spaced.replace(sign, " " + sign + " ")
        tokens = spaced.split()
        refused = 0
        for at, token in enumerate(tokens):
            for others in ([], [token, token], ["end"], ["+"], ["x"], ["1"], ["("], ["$"]):
                text = " ".join(tokens[:at] + others + tokens[at + 1:])
                try:
                    read_program(text)
                except TextError as error:
                    refused += 1
                    self.assertTrue(len(" ".join(tokens[:at])) <= error.at <= len(text), text)
        self.assertGreater(refused, 6 * len(tokens))
