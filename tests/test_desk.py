import inspect
import itertools
import re
import unittest

from dotpress.desk import Desk
from dotpress.errors import NoCircuit, NoFormula, NoLine, NoName, OutOfWidth, PressError, TooWide
from dotpress.text import shown
from samples import (
    mixed_formula, mixed_numbers, most_bits, names_in, numbers_of, plain_read, plain_room, plain_spans, plain_worth,
)

NAME = "[a-z]{1,6}"
NUMBER = "(?:0|-?[1-9][0-9]{0,19})"
NUMBERS = "(?: (?:0|[1-9][0-9]{0,19})){0,100}"

WIDE = "a*b+a+b+1"


# A desk done another way, without circuits: each line's answer, or the class of its refusal.
class PlainDesk:
    def __init__(self):
        self.widths = {}
        self.made = None

    def answer(self, line):
        if re.fullmatch(f"order rounds|(?:order|splits){NUMBERS}", line):
            return "ok"
        if re.fullmatch(f"width {NAME} {NUMBER}", line):
            width = int(line.split(" ")[2])
            if width == 0 or not -24 <= width <= 24:
                return NoLine
            self.widths[line.split(" ")[1]] = width
            return "ok"
        if re.fullmatch("(?:make|span|show) [^ ]+", line):
            return self.answer_of_formula(line[:4], line[5:])
        if re.fullmatch(f"ask(?: {NAME}={NUMBER})*", line):
            return self.answer_to_ask([word.split("=") for word in line.split(" ")[1:]])
        return NoLine

    def answer_of_formula(self, kind, text):
        formula = plain_read(text)
        if formula is None:
            return NoFormula
        if kind == "show":
            return shown(formula)
        if not names_in(formula) <= set(self.widths):
            return NoName
        if kind == "span":
            return "{} {}".format(*plain_spans(formula, self.widths)[-1])
        if most_bits(formula, self.widths) > 48:
            return TooWide
        self.made = (formula, {name: self.widths[name] for name in names_in(formula)})
        return str(plain_room(plain_spans(formula, self.widths)[-1])[0])

    def answer_to_ask(self, pairs):
        words = {name: int(number) for name, number in pairs}
        if len(words) < len(pairs):
            return NoLine
        if self.made is None:
            return NoCircuit
        if set(words) != set(self.made[1]):
            return NoName
        if any(number not in numbers_of(self.made[1][name]) for name, number in words.items()):
            return OutOfWidth
        return str(plain_worth(self.made[0], words))


def answer_of(desk, line):
    try:
        return desk.say(line)
    except PressError as refusal:
        return type(refusal)


class DeskCase(unittest.TestCase):
    def setUp(self):
        self.desk = Desk()

    def check(self, line, wanted):
        with self.subTest(line=line):
            answer = answer_of(self.desk, line)
            self.assertEqual(answer, wanted)
            if not isinstance(wanted, type):
                self.assertIs(type(answer), str)

    def check_all(self, pairs):
        for line, wanted in pairs:
            self.check(line, wanted)

    def say_all(self, lines):
        for line in lines:
            self.desk.say(line)


class InterfaceTest(unittest.TestCase):
    def test_arguments(self):
        self.assertEqual(list(inspect.signature(Desk).parameters), [])
        self.assertEqual(list(inspect.signature(Desk().say).parameters), ["line"])

    def test_a_refusal_is_raised(self):
        with self.assertRaises(NoLine):
            Desk().say("")
        with self.assertRaises(NoCircuit):
            Desk().say("ask")


class LinesTest(DeskCase):
    def test_width(self):
        self.check_all([("width a 3", "ok"), ("span a", "0 7"), ("width a -3", "ok"), ("span a", "-4 3")])
        self.check_all([("width zzzzzz 24", "ok"), ("span zzzzzz", "0 16777215"), ("span a", "-4 3")])
        self.check_all([("width a -24", "ok"), ("span a", "-8388608 8388607")])
        self.check_all([("width a -1", "ok"), ("span a", "-1 0")])
        for line in ["width a 0", "width a 25", "width a -25", "width aaaaaaa 3", "width a -0", "width a 03"]:
            self.check(line, NoLine)
        self.check("span a", "-1 0")

    def test_order_and_splits_answer_ok(self):
        lines = ["order", "order 0", "order 3 1 2", "order rounds", "splits", "splits 0", "splits 5 5 5"]
        lines.extend([" ".join([kind] + ["9" * 20] * 100) for kind in ("order", "splits")])
        for line in lines:
            self.check(line, "ok")
        for kind in ("order", "splits"):
            for rest in ["-1", "-0", "01", "9" * 21, "a", " ".join(["1"] * 101), "1  2", "1 "]:
                self.check(f"{kind} {rest}", NoLine)
        self.check("splits rounds", NoLine)
        self.check("order rounds 1", NoLine)

    def test_make_answers_the_number_of_outs(self):
        self.say_all(["width a 3", "width b -4"])
        cases = [
            ("0", "1"), ("1", "1"), ("2", "2"), ("-1", "1"), ("-5", "4"), ("a", "3"), ("b", "4"), ("-a", "4"),
            ("a+a", "4"), ("a-a", "4"), ("a*b", "7"), ("b*b", "8"), ("(a+1)*(b-3)", "8"), ("1000000000000", "40"),
        ]
        for text, wanted in cases:
            self.check(f"make {text}", wanted)

    def test_ask_answers_the_worth(self):
        self.say_all(["width a 3", "width b -4", "make a*(b-3)--a"])
        for first, second in itertools.product(range(8), range(-8, 8)):
            self.check(f"ask a={first} b={second}", str(first * (second - 3) + first))
            self.check(f"ask b={second} a={first}", str(first * (second - 3) + first))

    def test_ask_without_names(self):
        cases = [("0", "0"), ("7", "7"), ("-7", "-7"), ("3-8", "-5"), ("-0", "0"), ("5*-4", "-20")]
        for text, wanted in cases:
            self.desk.say(f"make {text}")
            self.check("ask", wanted)
            self.check("ask a=1", NoName)

    def test_answers_of_many_figures(self):
        self.say_all(["width a -24", "width b 24", "make a*b"])
        self.check("ask a=-8388608 b=16777215", str(-8388608 * 16777215))
        self.check("ask a=8388607 b=16777215", str(8388607 * 16777215))
        low = -8388608 * 8388607 * 16777215 ** 2 * 10 ** 12
        high = (8388608 * 16777215) ** 2 * 10 ** 12
        self.check("span a*b*a*b*1000000000000", f"{low} {high}")

    def test_span(self):
        self.say_all(["width a 3", "width b -4"])
        cases = [
            ("a", "0 7"), ("b", "-8 7"), ("5", "5 5"), ("-5", "-5 -5"), ("-0", "0 0"), ("a+b", "-8 14"),
            ("a*b", "-56 49"), ("a-b", "-7 15"), ("b*b", "-56 64"), ("-a", "-7 0"), ("a*(b-3)--a", "-77 35"),
        ]
        for text, wanted in cases:
            self.check(f"span {text}", wanted)
        self.check("ask", NoCircuit)

    def test_the_span_of_wide_formulas(self):
        self.say_all(["width a 24", "width b -24"])
        self.check("span a*a*a", f"0 {16777215 ** 3}")
        self.check("span -(a*b*b)", f"{-16777215 * 8388608 ** 2} {16777215 * 8388608 * 8388607}")

    def test_show(self):
        cases = [
            ("a", "a"), ("12", "12"), ("((a))", "a"), ("a+(b+c)", "a+(b+c)"), ("(a+b)+c", "a+b+c"), ("a--b", "a-(-b)"),
            ("-(a)*b", "(-a)*b"), ("-a*b", "(-a)*b"), ("-(a*b)", "-(a*b)"), ("--a", "-(-a)"),
            ("a*(b*c)", "a*(b*c)"), ("(a*b)*c", "a*b*c"),
            ("zzzzzz*1000000000000", "zzzzzz*1000000000000"),
        ]
        for text, wanted in cases:
            self.check(f"show {text}", wanted)

    def test_a_desk_begins_with_nothing(self):
        self.check_all([("span a", NoName), ("make a", NoName), ("ask", NoCircuit), ("ask a=1", NoCircuit)])

    def test_orders_and_splits_change_no_worth(self):
        self.say_all(["width a 5", "width b -5", "width c 3"])
        settings = ["order", "order rounds", "order 0", "order 7 3 11", "splits", "splits 0", "splits 4 1 9"]
        for setting in settings + ["order 99999999999999999999"]:
            self.check(setting, "ok")
            self.check("make (a-b)*c-a*b*2", "12")
            for words in [(0, 0, 0), (31, -16, 7), (31, 15, 7), (17, -3, 5), (1, 1, 1)]:
                a, b, c = words
                self.check(f"ask a={a} b={b} c={c}", str((a - b) * c - a * b * 2))

    def test_the_same_line_is_answered_the_same_again(self):
        self.say_all(["width a 4", "width b 2"])
        for line in ["make a*b-b", "ask a=9 b=3", "span a*b-b", "show a*b-b", "ask a=9 b=4", "ask a=9", "make c"]:
            first = answer_of(self.desk, line)
            self.assertEqual([answer_of(self.desk, line) for turn in range(3)], [first] * 3)

    def test_lines_as_long_as_told(self):
        self.check("show " + "+".join(["abcdef"] * 142), "+".join(["abcdef"] * 142))
        self.desk.say("width abcdef 1")
        self.check("make " + "+".join(["abcdef"] * 142), "8")
        self.check("ask abcdef=1", "142")
        self.check("show " + "a" * 2490, NoFormula)
        self.check("make " + "(" * 60 + "abcdef" + ")" * 60, "1")
        self.check("make " + "-" * 300 + "abcdef", "1")
        self.check("make " + "-" * 301 + "abcdef", "1")
        self.check("ask abcdef=1", "-1")
        self.check("ask " + " ".join(["ab=1"] * 400), NoLine)


class RefusalsTest(DeskCase):
    def test_no_line_goes_first(self):
        lines = [
            "", " ", "make", "make  a", "make a b", " make (", "make ( ", "span", "span a b", "show", "show ( (",
            "ask a", "ask a=1 a=2", "ask a=" + "9" * 21, "ask a=-0", "ask aaaaaaa=1", "width", "width a", "width A 3",
            "what",
        ]
        for line in lines:
            self.check(line, NoLine)
        self.say_all(["width a 3", "make a"])
        for line in lines:
            self.check(line, NoLine)

    def test_make(self):
        self.say_all(["width a 24", "width b 24"])
        cases = [
            ("make a*", NoFormula), ("make (a", NoFormula), ("make a=1", NoFormula), ("make aaaaaaa", NoFormula),
            ("make 01", NoFormula), ("make 1000000000001", NoFormula), ("make A", NoFormula), ("make ()", NoFormula),
            ("make c*", NoFormula), (f"make {WIDE}+", NoFormula), (f"make c+{WIDE})", NoFormula),
            ("make c", NoName), ("make a+c", NoName), (f"make c+{WIDE}", NoName), (f"make {WIDE}-c", NoName),
            ("make 0*c", NoName), (f"make {WIDE}", TooWide), (f"make 0*({WIDE})", TooWide), ("make a*b*a", TooWide),
            ("make a*b-1", TooWide), ("make a*b", "48"), ("make a*b+a+b", "48"),
        ]
        self.check_all(cases)

    def test_span_and_show(self):
        self.say_all(["width a 24", "width b 24"])
        for text in ["a*", "(a", "c*", "aaaaaaa", "1000000000001", "a=1", "-", "c-"]:
            self.check(f"span {text}", NoFormula)
            self.check(f"show {text}", NoFormula)
        for text in ["c", "a+c", f"c+{WIDE}", "0*c"]:
            self.check(f"span {text}", NoName)
        # Neither goes by the room, and show not by widths.
        self.check(f"span {WIDE}", f"1 {2 ** 48}")
        self.check(f"show c+{WIDE}", "c+a*b+a+b+1")
        self.check("show c", "c")

    def test_ask(self):
        self.check_all([("ask", NoCircuit), ("ask a=1", NoCircuit), ("ask zz=1", NoCircuit), ("ask a=1 a=1", NoLine)])
        self.check("ask a=" + "9" * 20, NoCircuit)
        self.say_all(["width a 3", "width b -3", "width c 3"])
        self.check("ask a=1 b=1", NoCircuit)
        self.say_all(["make a*b"])
        cases = [
            ("ask", NoName), ("ask a=1", NoName), ("ask b=1", NoName), ("ask a=1 b=1 c=1", NoName),
            ("ask a=1 c=1", NoName), ("ask a=8", NoName), ("ask a=8 c=1", NoName), ("ask a=-1 b=9 c=1", NoName),
            ("ask a=1 b=1 d=1", NoName),
            ("ask a=8 b=0", OutOfWidth), ("ask a=-1 b=0", OutOfWidth), ("ask a=0 b=4", OutOfWidth),
            ("ask a=0 b=-5", OutOfWidth), ("ask a=8 b=4", OutOfWidth), ("ask b=0 a=8", OutOfWidth),
            ("ask a=" + "9" * 20 + " b=0", OutOfWidth), ("ask a=0 b=-" + "9" * 20, OutOfWidth),
            ("ask a=" + "9" * 21 + " b=0", NoLine), ("ask a=8 b=0 a=8", NoLine), ("ask a=8 b=-0", NoLine),
            ("ask a=7 b=-4", "-28"), ("ask a=7 b=3", "21"), ("ask a=0 b=0", "0"),
        ]
        self.check_all(cases)

    def test_the_ends_of_every_width(self):
        for width in [width for width in range(-24, 25) if width != 0]:
            self.say_all([f"width a {width}", "make a"])
            every = numbers_of(width)
            for number in (every[0], every[-1], 0):
                self.check(f"ask a={number}", str(number))
            for number in (every[0] - 1, every[-1] + 1):
                self.check(f"ask a={number}", OutOfWidth)

    def test_names_that_cancel_out_are_asked_for(self):
        self.say_all(["width a 3", "width b 2"])
        for text in ["a-a+b", "0*a+b", "a*(b-b)"]:
            self.desk.say(f"make {text}")
            self.check("ask b=1", NoName)
            self.check("ask a=9 b=1", OutOfWidth)
            self.check("ask a=5 b=1", str(plain_worth(plain_read(text), {"a": 5, "b": 1})))


class ChangesTest(DeskCase):
    def test_a_refused_make_leaves_the_older_circuit(self):
        self.say_all(["width a 3", "width b 24", "make a+1"])
        for line in ["make", "make a+", "make c", "make b*b*b", "make a b", "make -", "make a*c*b*b*b"]:
            self.assertTrue(isinstance(answer_of(self.desk, line), type))
            self.check("ask a=7", "8")
            self.check("ask a=8", OutOfWidth)
            self.check("ask b=7", NoName)

    def test_a_refused_make_ahead_of_any_circuit(self):
        self.say_all(["width b 24"])
        for line in ["make", "make a+", "make c", "make b*b*b"]:
            self.assertTrue(isinstance(answer_of(self.desk, line), type))
            self.check("ask", NoCircuit)

    def test_a_refused_make_leaves_the_older_widths(self):
        self.say_all(["width a 3", "make a", "width a 5"])
        for line in ["make a+", "make a+c", "make a*1000000000000*1000000000000"]:
            self.assertTrue(isinstance(answer_of(self.desk, line), type))
            self.check("ask a=7", "7")
            self.check("ask a=8", OutOfWidth)

    def test_a_refused_width_leaves_the_older_one(self):
        self.say_all(["width a 3"])
        for line in ["width a 0", "width a 25", "width a -25", "width a", "width a 5 6", "width a -0", "width a 5 "]:
            self.check(line, NoLine)
            self.check("span a", "0 7")
        for line in ["width b 0", "width b 25"]:
            self.check(line, NoLine)
            self.check("span b", NoName)

    # How a heap is pressed is seen by the circuit alone, so the one that the desk keeps is looked at here.
    def kept_rows(self, lines):
        desk = Desk()
        for line in ["width a 5", "width b 5"] + lines + ["make a*b+a*b*3"]:
            answer_of(desk, line)
        return desk.circuit.rows

    def test_orders_and_splits_go_into_the_circuit(self):
        plain = self.kept_rows([])
        self.assertNotEqual(self.kept_rows(["order"]), plain)
        self.assertNotEqual(self.kept_rows(["order 5 2"]), plain)
        self.assertNotEqual(self.kept_rows(["order 5 2"]), self.kept_rows(["order"]))
        self.assertNotEqual(self.kept_rows(["splits 0"]), plain)
        self.assertEqual(self.kept_rows(["order 5 2", "order rounds"]), plain)
        self.assertEqual(self.kept_rows(["order 5 2", "order"]), self.kept_rows(["order"]))
        self.assertEqual(self.kept_rows(["order rounds"]), plain)
        self.assertEqual(self.kept_rows(["splits"]), plain)
        self.assertEqual(self.kept_rows(["splits 0", "splits"]), plain)

    def test_refused_orders_and_splits_leave_the_older_ones(self):
        too_many = " ".join(["1"] * 101)
        for line in ["order -1", "order rounds 1", f"order {too_many}", "order 00", "order ", "order 1 x"]:
            self.assertEqual(self.kept_rows([line]), self.kept_rows([]))
            self.assertEqual(self.kept_rows(["order 5 2", line]), self.kept_rows(["order 5 2"]))
        for line in ["splits -1", "splits rounds", f"splits {too_many}", "splits 00", "splits ", "splits 1 x"]:
            self.assertEqual(self.kept_rows([line]), self.kept_rows([]))
            self.assertEqual(self.kept_rows(["splits 0", line]), self.kept_rows(["splits 0"]))

    def test_the_circuit_is_made_fewer(self):
        rows = self.kept_rows([])
        self.assertEqual(len(set(rows)), len(rows))
        fixes = {wire for wire, row in enumerate(rows) if row[0] == "fix"}
        self.assertFalse(any(fixes & set(row[1:]) for row in rows if row[0] not in ("fix", "in")))

    def test_ask_goes_by_the_widths_at_the_making(self):
        self.say_all(["width a 3", "width b -3", "make a-b", "width a -6", "width b 1", "width c 4"])
        self.check_all([("ask a=7 b=-4", "11"), ("ask a=-1 b=0", OutOfWidth), ("ask a=8 b=0", OutOfWidth)])
        self.check_all([("ask a=0 b=3", "-3"), ("span a-b", "-33 31"), ("ask a=0 b=3 c=1", NoName)])
        self.check_all([("make a-b", "7"), ("ask a=-32 b=1", "-33"), ("ask a=0 b=2", OutOfWidth)])

    def test_ask_goes_by_the_last_circuit(self):
        self.say_all(["width a 3", "width b 3", "make a+b", "make a*a"])
        self.check_all([("ask a=3", "9"), ("ask a=3 b=1", NoName)])
        self.desk.say("make 5")
        self.check_all([("ask", "5"), ("ask a=3", NoName)])

    def test_later_orders_leave_the_circuit(self):
        self.say_all(["width a 3", "make a*a", "order 1 2 3", "splits 4", "order", "show a"])
        self.check("ask a=5", "25")

    def test_span_and_show_make_nothing(self):
        self.say_all(["width a 3", "make a+1", "span a*a", "show a*a*a"])
        self.check("ask a=5", "6")

    def test_two_desks_know_nothing_of_each_other(self):
        other = Desk()
        self.say_all(["width a 3", "order 1", "splits 2", "make a+1"])
        self.assertEqual(answer_of(other, "span a"), NoName)
        self.assertEqual(answer_of(other, "ask a=1"), NoCircuit)
        other.say("width a -5")
        other.say("make a*a")
        self.check_all([("span a", "0 7"), ("ask a=7", "8")])
        self.assertEqual(other.say("ask a=-16"), "256")


class MixedTest(unittest.TestCase):
    def mixed_line(self, numbers, plain):
        kind = next(numbers) % 14
        if kind < 3:
            width = (next(numbers) % 52 - 26, next(numbers) % 12 - 5)[next(numbers) % 2]
            return f"width {self.mixed_name(numbers)} {width}"
        if kind < 5:
            return ("order", "splits")[next(numbers) % 2] + self.mixed_tail(numbers)
        if kind < 9:
            leaves = [("name", name) for name in "abc"] + [("number", next(numbers) % 40), ("number", 10 ** 12)]
            text = shown(mixed_formula(numbers, 1 + next(numbers) % 9, leaves))
            return ("make", "make", "make", "span", "show")[next(numbers) % 5] + " " + text
        names = [self.mixed_name(numbers) for place in range(next(numbers) % 4)]
        if plain.made is not None and next(numbers) % 4 > 0:
            names = sorted(plain.made[1])
        return " ".join(["ask"] + [f"{name}={self.mixed_number(numbers, name, plain)}" for name in names])

    def mixed_name(self, numbers):
        return ("a", "b", "c", "a", "b", "c", "a", "b", "c", "zzzzzz", "aaaaaaa")[next(numbers) % 11]

    def mixed_tail(self, numbers):
        if next(numbers) % 4 == 0:
            return (" rounds", " -3", " 99999999999999999999", " 100000000000000000000")[next(numbers) % 4]
        return "".join([f" {next(numbers) % 90}" for turn in range(next(numbers) % 5)])

    def mixed_number(self, numbers, name, plain):
        every = numbers_of((plain.made[1] if plain.made else {}).get(name, 3))
        picks = [every[0], every[-1], 0] + [every[next(numbers) % len(every)] for turn in range(12)]
        picks.extend([every[-1] + 1, every[0] - 1])
        return picks[next(numbers) % len(picks)]

    def spoilt(self, numbers, line):
        place = next(numbers) % (len(line) + 1)
        sign = " -0a=(*~)"[next(numbers) % 9]
        return (line[:place] + sign + line[place:], line[:place] + line[place + 1:])[next(numbers) % 2]

    def test_mixed_lines(self):
        numbers = mixed_numbers(97)
        seen = {}
        for turn in range(100):
            desk, plain = Desk(), PlainDesk()
            said = []
            for place in range(60):
                line = self.mixed_line(numbers, plain)
                if next(numbers) % 9 == 0:
                    line = self.spoilt(numbers, line)
                said.append(line)
                wanted = plain.answer(line)
                answer = answer_of(desk, line)
                self.assertEqual(answer, wanted, said)
                kind = wanted if isinstance(wanted, type) else line.split(" ")[0]
                seen[kind] = seen.get(kind, 0) + 1
        # Each kind of answer came about many times.
        kinds = ["width", "order", "splits", "make", "ask", "span", "show"]
        kinds.extend([NoLine, NoFormula, NoName, TooWide, NoCircuit, OutOfWidth])
        self.assertEqual({kind: seen.get(kind, 0) for kind in kinds if seen.get(kind, 0) < 40}, {})


if __name__ == "__main__":
    unittest.main()
