import unittest

from dotpress.errors import NoLine, PressError
from dotpress.lines import read_line

GREATEST_WRITTEN = 10 ** 20 - 1

LINES = [
    ("width a 1", ("width", "a", 1)),
    ("width zzzzzz -24", ("width", "zzzzzz", -24)),
    ("width rounds 24", ("width", "rounds", 24)),
    ("width width -1", ("width", "width", -1)),
    ("order", ("order", [])),
    ("order 0", ("order", [0])),
    ("order 3 0 3 12", ("order", [3, 0, 3, 12])),
    ("order " + "9" * 20, ("order", [GREATEST_WRITTEN])),
    ("order rounds", ("order", None)),
    ("splits", ("splits", [])),
    ("splits 0 10", ("splits", [0, 10])),
    ("splits " + "1" + "0" * 19, ("splits", [10 ** 19])),
    ("make a+b", ("make", "a+b")),
    ("make +", ("make", "+")),
    ("make make", ("make", "make")),
    ("span a=3", ("span", "a=3")),
    ("show ~!#;A", ("show", "~!#;A")),
    ("ask", ("ask", {})),
    ("ask a=0", ("ask", {"a": 0})),
    ("ask zzzzzz=-7 b=12", ("ask", {"zzzzzz": -7, "b": 12})),
    ("ask a=-" + "9" * 20 + " b=" + "9" * 20, ("ask", {"a": -GREATEST_WRITTEN, "b": GREATEST_WRITTEN})),
]

# Written otherwise than a number is, or beyond 20 figures.
NO_NUMBERS = [
    "-0", "00", "01", "007", "-01", "-00", "--1", "-", "+1", "+0", "1-", "1+1", "1.0", "1,0", "1_0", "0x1", "1e3", "a",
    "(1)", "-a", "=1", "1=", "", "9" * 21, "-" + "9" * 21, "1" + "0" * 20, "9" * 400, "-" + "9" * 5000,
]

NO_NAMES = ["", "aaaaaaa", "A", "aB", "a1", "1", "a_b", "a-b", "-a", "(a)", "a+b", "~", "a,", "abcdef7"]

NO_WIDTHS = ["0", "25", "-25", "26", "240", "-240", "100", "9" * 20, "-" + "9" * 20]


class LinesTest(unittest.TestCase):
    def check_refused(self, line):
        with self.subTest(line=line):
            with self.assertRaises(PressError) as caught:
                read_line(line)
            self.assertIs(type(caught.exception), NoLine)

    def test_each_kind_of_line(self):
        for line, wanted in LINES:
            with self.subTest(line=line):
                self.assertEqual(read_line(line), wanted)

    def test_every_width(self):
        for width in range(1, 25):
            self.assertEqual(read_line(f"width a {width}"), ("width", "a", width))
            self.assertEqual(read_line(f"width a -{width}"), ("width", "a", -width))

    def test_blanks_at_the_begin_at_the_end_and_twice(self):
        for line, told in LINES:
            self.check_refused(" " + line)
            self.check_refused(line + " ")
            for place in range(len(line)):
                if line[place] == " ":
                    self.check_refused(line[:place] + " " + line[place:])
        for line in ["", " ", "  ", " order", "order ", "splits ", "ask ", "make ", "show  "]:
            self.check_refused(line)

    def test_words_that_lack_and_words_too_many(self):
        lines = [
            "width", "width a", "width 3", "width a 3 4", "width a b", "width a 3 b", "width 3 a", "make", "make a b",
            "make a + b", "span", "span a b", "show", "show a b", "show a+ b", "order rounds rounds", "order rounds 1",
            "order 1 rounds", "splits rounds", "ask rounds", "width a=3", "order a",
        ]
        for line in lines:
            self.check_refused(line)

    def test_other_first_words(self):
        lines = [
            "a", "Width a 3", "ASK", "orders", "orde 1", "rounds", "split 1", "widths a 3", "show-a", "ask,", "=", "0",
            "ask a=1,b=2", "a make", "make=a", "told a", "-",
        ]
        for line in lines:
            self.check_refused(line)

    def test_what_is_no_number(self):
        for word in NO_NUMBERS:
            for line in [f"width a {word}", f"order {word}", f"order 1 {word} 2", f"splits 5 {word}", f"ask a={word}"]:
                self.check_refused(line)
            self.check_refused(f"ask b=1 a={word} c=2")

    def test_what_is_no_name(self):
        for word in NO_NAMES:
            for line in [f"width {word} 3", f"ask {word}=3", f"ask a=3 {word}=3 b=1"]:
                self.check_refused(line)

    def test_what_is_no_width(self):
        for word in NO_WIDTHS:
            self.check_refused(f"width a {word}")

    def test_numbers_below_nought_in_order_and_splits(self):
        for kind in ("order", "splits"):
            for numbers in ["-1", "3 -1", "-1 3", "-" + "9" * 20]:
                self.check_refused(f"{kind} {numbers}")

    def test_a_hundred_numbers_and_one_more(self):
        for kind in ("order", "splits"):
            for word, number in [("7", 7), ("9" * 20, GREATEST_WRITTEN)]:
                self.assertEqual(read_line(" ".join([kind] + [word] * 100)), (kind, [number] * 100))
                self.check_refused(" ".join([kind] + [word] * 101))
                self.check_refused(" ".join([kind] + [word] * 99 + ["-0"]))

    def test_a_name_twice_in_ask(self):
        for line in ["ask a=1 a=1", "ask a=1 a=2", "ask a=1 b=2 a=3", "ask zz=1 b=2 b=2"]:
            self.check_refused(line)
        self.assertEqual(read_line("ask a=1 aa=1"), ("ask", {"a": 1, "aa": 1}))

    def test_ask_words(self):
        lines = [
            "ask a", "ask =", "ask a=", "ask =1", "ask a=1=2", "ask a==1", "ask a=b", "ask 1=a", "ask a 1", "ask a= 1",
            "ask a =1", "ask 5", "ask a=1 b", "ask a1", "ask -",
        ]
        for line in lines:
            self.check_refused(line)


if __name__ == "__main__":
    unittest.main()
