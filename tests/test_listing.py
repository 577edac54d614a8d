import copy
import random
import unittest

from backrun.errors import BackrunError, CodeError
from backrun.listing import read_code, show_code
from backrun.machine import machine_faults
from tests.test_machine import KINDS, WORDS, example

EACH = (
    (("add", 0, 15), "add r0 r15"), (("sub", 1, 2), "sub r1 r2"), (("xor", 10, 9), "xor r10 r9"),
    (("addi", 3, 255), "addi r3 255"), (("xori", 3, 0), "xori r3 0"), (("and", 1, 2, 3), "and r1 r2 r3"),
    (("or", 1, 2, 3), "or r1 r2 r3"), (("mul", 1, 2, 3), "mul r1 r2 r3"), (("less", 1, 2, 3), "less r1 r2 r3"),
    (("equal", 1, 2, 2), "equal r1 r2 r2"), (("shl", 1, 2, 3), "shl r1 r2 r3"), (("shr", 1, 2, 3), "shr r1 r2 r3"),
    (("rem", 1, 2, 3), "rem r1 r2 r3"), (("differ", 1, 2, 3), "differ r1 r2 r3"), (("test", 4, 5), "test r4 r5"),
    (("swap", 4, 5), "swap r4 r5"), (("exch", 4, 5), "exch r4 r5"), (("addr", 4, 5), "addr r4 r5"),
    (("subr", 4, 5), "subr r4 r5"), (("addl", 4, 4294967295), "addl r4 4294967295"), (("neg", 0), "neg r0"),
    (("over", 1, 2, 4096), "over r1 r2 4096"), (("swapbr", 14), "swapbr r14"), (("bra", -12), "bra -12"),
    (("bra", 0), "bra 0"), (("brz", 1, 7), "brz r1 7"), (("brn", 1, -7), "brn r1 -7"), (("rbra", 2147483647), "rbra 2147483647"),
    (("rbra", -2147483648), "rbra -2147483648"), (("skip",), "skip"), (("halt",), "halt"), (("fail", 0), "fail 0"),
    (("fail", 10 ** 12), "fail 1000000000000"),
)


class Show(unittest.TestCase):
    def test_each_instruction(self):
        self.assertEqual({row[0][0] for row in EACH}, set(WORDS))
        for instruction, line in EACH:
            self.assertEqual(show_code((8, (instruction,))), "width 8\n" + line + "\n")

    def test_whole_machines(self):
        self.assertEqual(show_code((32, ())), "width 32\n")
        machine = (8, tuple(instruction for instruction, _ in EACH))
        self.assertEqual(show_code(machine), "width 8\n" + "".join(line + "\n" for _, line in EACH))


class Read(unittest.TestCase):
    def test_what_was_shown(self):
        for width in range(1, 33):
            chance = random.Random(width)
            machine = (width, tuple(example(word, chance, width) for word in WORDS * 3))
            before = copy.deepcopy(machine)
            self.assertEqual(machine_faults(machine), [])
            self.assertEqual(read_code(show_code(machine)), machine)
            self.assertEqual(machine, before)
            self.assertEqual(read_code(f"width {width}"), (width, ()))

    def test_its_kinds(self):
        width, code = read_code("width 8\nadd r1 r2\n")
        self.assertIs(type(code), tuple)
        self.assertIs(type(code[0]), tuple)
        self.assertEqual((width, code), (8, (("add", 1, 2),)))

    def test_blanks_and_empty_lines(self):
        machine = (8, (("add", 1, 2), ("bra", -3), ("halt",)))
        for text in (
            "width 8\nadd r1 r2\nbra -3\nhalt", "  width   8  \n   add    r1  r2 \n bra   -3\nhalt   \n",
            "\n\nwidth 8\n\n   \nadd r1 r2\n\nbra -3\n\n\nhalt\n\n\n  \n",
        ):
            self.assertEqual(read_code(text), machine)

    def test_remarks(self):
        machine = (8, (("add", 1, 2), ("halt",)))
        for text in (
            "# one\nwidth 8 # two\n#\nadd r1 r2 #three\n # four # five\nhalt #\n# width 9",
            "#width 9\nwidth 8 #9\nadd r1 r2 # # r3\n####\nhalt ##",
            "width 8\nadd r1 r2\nhalt\n#",
        ):
            self.assertEqual(read_code(text), machine)


class Refused(unittest.TestCase):
    def fails(self, text, line):
        with self.assertRaises(CodeError) as caught:
            read_code(text)
        self.assertEqual(caught.exception.line, line, text)
        self.assertIsInstance(caught.exception, BackrunError)

    def at_line(self, bad):
        """The line is bad behind a width of 8, and wherever it stands."""
        self.fails("width 8\n" + bad, 2)
        self.fails("width 8\nskip\n\n# here\nhalt\n" + bad + "\n", 6)
        self.fails("\n\nwidth 8\n" + bad + "\nskip\nnothing\n", 4)

    def test_unknown_words(self):
        for bad in ("jump", "jump r1", "Add r1 r2", "r1", "8", "-", "add,r1,r2", "int 5", "skip;", "halt.", "add\tr1 r2", "."):
            self.at_line(bad)

    def test_wrong_numbers_of_parts(self):
        for word, kinds in KINDS.items():
            shown = show_code((8, (example(word, random.Random(3), 8),))).split("\n")[1]
            self.assertEqual(len(read_code("width 8\n" + shown)[1]), 1)
            self.at_line(shown + " 1")
            self.at_line(shown + " r1")
            if kinds:
                self.at_line(shown.rpartition(" ")[0])

    def test_registers_that_are_none(self):
        for bad in ("r16", "r-1", "r", "1", "R1", "rr1", "r01", "r1.0", "x1", "r1r", "r+1", "-r1", "r99999999999"):
            for line in (f"add {bad} r2", f"add r2 {bad}", f"less r2 r3 {bad}", f"neg {bad}", f"brz {bad} 5", f"over r2 {bad} 5",
                         f"addi {bad} 5", f"swapbr {bad}"):
                self.at_line(line)
        self.at_line("addi r1 r2")
        self.at_line("bra r1")
        self.at_line("fail r1")
        self.at_line("addl r1 r2")

    def test_registers_that_must_differ(self):
        for bad in ("add r1 r1", "less r1 r1 r2", "less r1 r2 r1", "swap r3 r3", "over r3 r3 1"):
            self.at_line(bad)

    def test_numbers_out_of_their_bounds(self):
        for bad in ("addi r1 256", "addi r1 -1", "xori r1 1000", "addl r1 4294967296", "addl r1 -1", "over r1 r2 4294967296",
                    "over r1 r2 -1", "bra 2147483648", "bra -2147483649", "brz r1 2147483648", "brn r1 -2147483649",
                    "rbra 99999999999", "fail -1"):
            self.at_line(bad)
        self.assertEqual(read_code("width 8\naddi r1 255"), (8, (("addi", 1, 255),)))
        self.fails("width 1\naddi r1 2", 2)
        self.assertEqual(read_code("width 32\naddi r1 4294967295"), (32, (("addi", 1, 4294967295),)))
        self.fails("width 32\naddi r1 4294967296", 2)
        self.at_line("addi r1 1" + "0" * 5000)

    def test_numbers_that_are_none(self):
        for bad in ("x", "1x", "1.0", "--1", "+1", "1_0", "01", "00", "-0", "-", "0x1", "1-"):
            self.at_line("bra " + bad)
            self.at_line("addi r1 " + bad)
            self.at_line("fail " + bad)

    def test_signs_that_begin_no_remark(self):
        for bad in ("add r1 r2#", "add r1 r2#x", "skip#", "add r1# r2", "bra 5#", "sk#ip"):
            self.at_line(bad)
        self.fails("width 8#\n", 1)

    def test_widths_that_are_none(self):
        for bad in ("width", "width 0", "width 33", "width -1", "width x", "width 8 8", "width r8", "width 08", "width 8.0",
                    "width 99999999999", "width 8 x"):
            self.fails(bad, 1)
            self.fails(bad + "\nskip\n", 1)
            self.fails("\n# w\n" + bad + "\nskip\nnothing\n", 3)

    def test_a_width_that_stands_twice(self):
        self.at_line("width 8")
        self.at_line("width 9")
        self.at_line("width")

    def test_a_width_that_is_missing(self):
        self.fails("skip\n", 2)
        self.fails("skip", 2)
        self.fails("skip\nadd r1 r2\nhalt\n", 4)
        self.fails("\n# width 8\nskip\n\n", 5)
        self.fails("addi r1 4000000000\n", 2)
        # a line that is none at all comes first
        self.fails("skip\nnothing\nhalt\n", 2)
        self.fails("8\nskip\n", 1)

    def test_a_width_that_comes_late(self):
        self.fails("skip\nwidth 8\n", 1)
        self.fails("\nskip\nhalt\nwidth 8\n", 2)
        self.fails("\nnothing\nwidth 8\n", 2)

    def test_empty_texts(self):
        self.fails("", 1)
        self.fails("\n", 2)
        self.fails("   ", 2)
        self.fails("# only this", 2)
        self.fails("\n\n# only this\n\n", 5)
