import inspect
import itertools
import unittest

from dotpress import text as text_module
from dotpress.errors import NoFormula, PressError
from dotpress.text import read, shown
from samples import mixed_formula, mixed_numbers, plain_read, python_text

A = ("name", "a")
B = ("name", "b")
C = ("name", "c")
D = ("name", "d")

GREATEST = 10 ** 12

LEAVES = [
    A, B, ("name", "word"), ("name", "zzzzzz"), ("number", 0), ("number", 9), ("number", 10), ("number", GREATEST),
]

SOME_PARTS = [A, ("number", 7), ("plus", A, B), ("less", A, B), ("times", A, B), ("turned", A)]

# What each of these parts is written as at each place where a part may stand.
PLACES = [
    (lambda part: part, ["a", "7", "a+b", "a-b", "a*b", "-a"]),
    (lambda part: ("plus", part, C), ["a+c", "7+c", "a+b+c", "a-b+c", "a*b+c", "-a+c"]),
    (lambda part: ("plus", C, part), ["c+a", "c+7", "c+(a+b)", "c+(a-b)", "c+a*b", "c+(-a)"]),
    (lambda part: ("less", part, C), ["a-c", "7-c", "a+b-c", "a-b-c", "a*b-c", "-a-c"]),
    (lambda part: ("less", C, part), ["c-a", "c-7", "c-(a+b)", "c-(a-b)", "c-a*b", "c-(-a)"]),
    (lambda part: ("times", part, C), ["a*c", "7*c", "(a+b)*c", "(a-b)*c", "a*b*c", "(-a)*c"]),
    (lambda part: ("times", C, part), ["c*a", "c*7", "c*(a+b)", "c*(a-b)", "c*(a*b)", "c*(-a)"]),
    (lambda part: ("turned", part), ["-a", "-7", "-(a+b)", "-(a-b)", "-(a*b)", "-(-a)"]),
]


class InterfaceTest(unittest.TestCase):
    def test_arguments(self):
        wanted = {"shown": ["formula"], "read": ["text"]}
        for name, arguments in wanted.items():
            with self.subTest(name=name):
                self.assertEqual(list(inspect.signature(getattr(text_module, name)).parameters), arguments)


class TextCase(unittest.TestCase):
    def check_read(self, text, wanted):
        answer = read(text)
        self.assertIs(type(answer), tuple)
        self.assertTrue(answer == wanted, (text, answer))

    def check_refused(self, text):
        with self.assertRaises(NoFormula, msg=text) as taken:
            read(text)
        self.assertIs(type(taken.exception), NoFormula)
        self.assertIsInstance(taken.exception, PressError)

    def check_both(self, formula, text):
        answer = shown(formula)
        self.assertIs(type(answer), str)
        self.assertEqual(answer, text)
        self.check_read(text, formula)


class ShownTest(TextCase):
    def test_leaves(self):
        cases = [
            (A, "a"),
            (("name", "z"), "z"),
            (("name", "zebras"), "zebras"),
            (("number", 0), "0"),
            (("number", 10), "10"),
            (("number", 123456789012), "123456789012"),
            (("number", GREATEST), "1000000000000"),
        ]
        for formula, text in cases:
            with self.subTest(formula=formula):
                self.check_both(formula, text)

    def test_each_kind_of_part_at_each_place(self):
        for place, texts in PLACES:
            for part, text in zip(SOME_PARTS, texts, strict=True):
                with self.subTest(text=text):
                    self.check_both(place(part), text)

    # Within a further part, brackets stand as they stand by themselves.
    def test_each_kind_of_part_at_each_place_within_another(self):
        further = [
            (lambda part: ("plus", part, D), "{}+d"),
            (lambda part: ("plus", D, part), "d+{}"),
            (lambda part: ("less", part, D), "{}-d"),
            (lambda part: ("less", D, part), "d-{}"),
            (lambda part: ("times", part, D), "{}*d"),
            (lambda part: ("times", D, part), "d*{}"),
            (lambda part: ("turned", part), "-{}"),
        ]
        for (around, form), (place, texts) in itertools.product(further, PLACES):
            for part, text in zip(SOME_PARTS, texts, strict=True):
                inner = place(part)
                ahead = form in ("{}+d", "{}-d")
                always = inner[0] in ("plus", "less", "turned") and not ahead
                product = inner[0] == "times" and form in ("d*{}", "-{}")
                wanted = form.replace("{}", f"({text})" if always or product else text)
                with self.subTest(wanted=wanted):
                    self.check_both(around(inner), wanted)

    def test_the_examples_of_the_point(self):
        self.check_both(("less", ("less", A, B), C), "a-b-c")
        self.check_both(("less", A, ("less", B, C)), "a-(b-c)")
        self.check_read("-a*b", ("times", ("turned", A), B))
        self.assertEqual(shown(("times", ("turned", A), B)), "(-a)*b")
        self.check_both(("turned", ("times", A, B)), "-(a*b)")

    def test_longer_ones(self):
        cases = [
            (("plus", ("less", ("turned", A), ("times", B, C)), ("number", 12)), "-a-b*c+12"),
            (("times", ("times", A, B), ("plus", C, ("turned", ("number", 3)))), "a*b*(c+(-3))"),
            (("less", ("turned", ("turned", A)), ("turned", ("turned", B))), "-(-a)-(-(-b))"),
            (("plus", A, ("times", ("turned", B), C)), "a+(-b)*c"),
            (("times", ("plus", A, B), ("less", A, B)), "(a+b)*(a-b)"),
            (("plus", ("plus", A, B), ("plus", A, B)), "a+b+(a+b)"),
            (("times", ("times", A, B), ("times", A, B)), "a*b*(a*b)"),
            (("turned", ("turned", ("turned", ("number", 0)))), "-(-(-0))"),
            (("less", ("times", A, A), ("times", B, B)), "a*a-b*b"),
        ]
        for formula, text in cases:
            with self.subTest(text=text):
                self.check_both(formula, text)

    def test_thirty_parts_within_one_another(self):
        formula = A
        for turn in range(29):
            formula = ("turned", formula)
        self.check_both(formula, "-(" * 28 + "-a" + ")" * 28)
        for kind, sign in (("plus", "+"), ("less", "-"), ("times", "*")):
            left = A
            right = B
            for turn in range(14):
                left = (kind, left, B)
                right = (kind, A, right)
            self.check_both(left, "a" + (sign + "b") * 14)
            self.check_both(right, ("a" + sign + "(") * 13 + "a" + sign + "b" + ")" * 13)

    def test_somewhat_beyond_the_bounds(self):
        formula = A
        for turn in range(120):
            formula = ("turned", formula)
        self.check_both(formula, "-(" * 119 + "-a" + ")" * 119)
        many = A
        for turn in range(100):
            many = ("less", many, B)
        self.check_both(many, "a" + "-b" * 100)


class ReadTest(TextCase):
    def test_what_is_written_reads_to_the_same_formula(self):
        numbers = mixed_numbers(51)
        for turn in range(1500):
            formula = mixed_formula(numbers, 1 + turn % 30, LEAVES)
            with self.subTest(formula=formula):
                self.check_read(shown(formula), formula)

    def test_every_small_formula_is_written_and_read(self):
        some = [[A, ("number", 0)]]
        for turn in range(2):
            every = [formula for formulas in some for formula in formulas]
            made = [("turned", formula) for formula in every]
            for first, second in itertools.product(every, repeat=2):
                made.extend((kind, first, second) for kind in ("plus", "less", "times"))
            some = [every, made]
        for formula in every + made:
            self.assertTrue(read(shown(formula)) == formula, formula)

    def test_brackets_that_are_not_needed(self):
        cases = [
            ("(a)", A),
            ("((a))", A),
            ("(12)", ("number", 12)),
            ("(a)+(b)", ("plus", A, B)),
            ("((a)+(b))", ("plus", A, B)),
            ("(a+b)+c", ("plus", ("plus", A, B), C)),
            ("(a*b)*c", ("times", ("times", A, B), C)),
            ("(a*b)+c", ("plus", ("times", A, B), C)),
            ("a+(b*c)", ("plus", A, ("times", B, C))),
            ("-(a)", ("turned", A)),
            ("(-a)", ("turned", A)),
            ("(-(a))*(((b)))", ("times", ("turned", A), B)),
            ("(-a)+b", ("plus", ("turned", A), B)),
        ]
        for text, formula in cases:
            with self.subTest(text=text):
                self.check_read(text, formula)

    def test_every_part_in_brackets(self):
        numbers = mixed_numbers(61)
        for turn in range(300):
            formula = mixed_formula(numbers, 1 + turn % 30, LEAVES)
            with self.subTest(formula=formula):
                self.check_read(python_text(formula), formula)

    def test_joined_from_the_left(self):
        cases = [
            ("a+b+c", ("plus", ("plus", A, B), C)),
            ("a-b-c", ("less", ("less", A, B), C)),
            ("a-b+c", ("plus", ("less", A, B), C)),
            ("a+b-c", ("less", ("plus", A, B), C)),
            ("a*b*c", ("times", ("times", A, B), C)),
            ("a+b*c", ("plus", A, ("times", B, C))),
            ("a*b+c", ("plus", ("times", A, B), C)),
            ("a-b*c-d", ("less", ("less", A, ("times", B, C)), D)),
            ("a*b-c*d", ("less", ("times", A, B), ("times", C, D))),
        ]
        for text, formula in cases:
            with self.subTest(text=text):
                self.check_read(text, formula)

    def test_turned_pieces(self):
        turned_b = ("turned", B)
        cases = [
            ("-a", ("turned", A)),
            ("--a", ("turned", ("turned", A))),
            ("-0", ("turned", ("number", 0))),
            ("-a*b", ("times", ("turned", A), B)),
            ("a*-b", ("times", A, turned_b)),
            ("-a*-b*-c", ("times", ("times", ("turned", A), turned_b), ("turned", C))),
            ("a--b", ("less", A, turned_b)),
            ("a+-b", ("plus", A, turned_b)),
            ("a---b", ("less", A, ("turned", turned_b))),
            ("-a-b", ("less", ("turned", A), B)),
            ("-a+b", ("plus", ("turned", A), B)),
            ("--(a--b)*c", ("times", ("turned", ("turned", ("less", A, turned_b))), C)),
            ("a*(-b)", ("times", A, turned_b)),
            ("a+-b*c", ("plus", A, ("times", turned_b, C))),
            ("-(a+b)-c", ("less", ("turned", ("plus", A, B)), C)),
            ("-(-a)*b", ("times", ("turned", ("turned", A)), B)),
        ]
        for text, formula in cases:
            with self.subTest(text=text):
                self.check_read(text, formula)

    def test_sixty_deep(self):
        turned_60 = A
        for turn in range(60):
            turned_60 = ("turned", turned_60)
        self.check_read("(" * 60 + "a" + ")" * 60, A)
        self.check_read("-" * 60 + "a", turned_60)
        self.check_read("b*" + "-" * 60 + "a", ("times", B, turned_60))
        turned_30 = A
        for turn in range(30):
            turned_30 = ("turned", turned_30)
        self.check_read("-(" * 30 + "a" + ")" * 30, turned_30)
        self.check_read("(-" * 30 + "a" + ")" * 30, turned_30)
        nested = A
        for turn in range(14):
            nested = ("less", B, nested)
        self.check_read("((((b-" * 14 + "a" + "))))" * 14, nested)

    def test_sixty_deep_and_wrong(self):
        for text in (
            "(" * 60, "(" * 60 + ")" * 60, "(" * 60 + "a" + ")" * 59, "(" * 59 + "a" + ")" * 60, "-" * 60,
            "(" * 60 + "a+" + ")" * 60, "-(" * 30 + "a" + ")" * 29, "(" * 60 + "a b" + ")" * 60,
        ):
            with self.subTest(text=text):
                self.check_refused(text)

    def test_thousand_signs(self):
        piece = "(" * 32 + "a" + ")" * 32
        text = "(" * 5 + "-".join([piece] * 15) + ")" * 5
        self.assertEqual(len(text), 999)
        wanted = A
        for turn in range(14):
            wanted = ("less", wanted, A)
        self.check_read(text, wanted)
        self.check_read("-" + text, ("turned", wanted))
        for wrong in (text + "-", text + "a", text + ")", "(" + text, "*" + text, " " + text, text[:-1], text[1:]):
            with self.subTest(wrong=wrong):
                self.check_refused(wrong)
        for sign in "abc019+-*() ~":
            with self.subTest(sign=sign):
                self.check_refused(sign * 1000)

    def test_texts_with_more_parts_and_deeper_than_told(self):
        wanted = A
        for turn in range(499):
            wanted = ("plus", wanted, A)
        self.check_read("a" + "+a" * 499, wanted)
        self.assertEqual(shown(wanted), "a" + "+a" * 499)
        self.check_read("(" * 499 + "a" + ")" * 499, A)
        self.check_refused("(" * 499 + "a" + ")" * 500)
        self.check_refused("a" + "+a" * 499 + "+")
        self.check_refused("(" * 2000)
        self.check_refused("-" * 2000)
        self.check_refused("9" * 6000)

    def test_numbers(self):
        for text, number in [
            ("0", 0), ("1", 1), ("9", 9), ("10", 10), ("100", 100), ("90", 90), ("1000000000000", GREATEST),
            ("999999999999", GREATEST - 1), ("123456789012", 123456789012),
        ]:
            with self.subTest(text=text):
                self.check_read(text, ("number", number))
                self.check_read("a+" + text, ("plus", A, ("number", number)))
                self.check_read("-" + text, ("turned", ("number", number)))

    def test_numbers_that_are_none(self):
        for text in (
            "00", "01", "007", "010", "0000000000001", "01000000000000", "1000000000001", "9999999999999",
            "2000000000000", "10000000000000", "0" * 13, "0" * 14, "1" * 14, "1" * 60, "9" * 1000, "1.0", "1e3", "0x1",
            "1_0", "+1", "1 0", "1,000", "0b1", "1a", "a1", "1(2)", "(1)2", "\u0661", "\u00b2", "1\u0661",
        ):
            for around in ("{}", "a+{}", "({})", "-{}", "{}*a"):
                with self.subTest(text=text, around=around):
                    self.check_refused(around.replace("{}", text))

    def test_names(self):
        for text in ("a", "z", "az", "abcdef", "zzzzzz", "plus", "in", "fix", "name"):
            with self.subTest(text=text):
                self.check_read(text, ("name", text))
                self.check_read(text + "*" + text, ("times", ("name", text), ("name", text)))

    def test_names_that_are_none(self):
        for text in (
            "abcdefg", "aaaaaaa", "a" * 12, "A", "Z", "aB", "Ab", "ABC", "abcdeF", "a1", "1a", "a1b", "a_b", "_", "a.b",
            "a'", "a`", "`", "{", "@", "[", "\u00e9", "a\u00e9", "\u0430", "a b", "\u00aa",
        ):
            for around in ("{}", "a+{}", "({})", "-{}", "{}*a"):
                with self.subTest(text=text, around=around):
                    self.check_refused(around.replace("{}", text))

    def test_texts_that_write_none(self):
        for text in (
            "", " ", "  ", " a", "a ", "a +b", "a+ b", "a + b", "( a)", "(a )", "- a", "\n", "a\n", "\ta", "a\t+b",
            "+", "-", "*", "+a", "*a", "a+", "a-", "a*", "-a-", "--", "a--", "a++b", "a**b", "a*+b", "a-+b", "a+*b",
            "a-*b", "-+a", "-*a", "(+a)", "(*a)", "(a+)", "(a*)", "(a-)", "a+-", "a*-",
            "(", ")", "()", ")(", "(a", "a)", "((a)", "(a))", "a(", "a()", "()a", "(a)(b)", "a(b)", "(a)b", "a+(b",
            "a+b)", "(a+b", "a)+(b", "-()", "-(", "a*()", "()+a", "(())", "(()a)", ")a(", "a+()", "(-)", "(a)-", "a)b",
            "a/b", "a//b", "a^b", "a=b", "a;b", "a,b", "a|b", "a&b", "~a", "!a", "[a]", "{a}", "a#", "a?", "$a", "a:b",
            "a<b", "\"a\"", "'a'", "a\\", "a@b", "a.b", "\u2212a", "a\u00d7b", "\uff08a\uff09",
        ):
            with self.subTest(text=text):
                self.check_refused(text)

    def test_every_sign_by_itself_and_between(self):
        joining = {"+": "plus", "-": "less", "*": "times"}
        for code in range(32, 127):
            sign = chr(code)
            with self.subTest(sign=sign):
                if "a" <= sign <= "z":
                    self.check_read(sign, ("name", sign))
                    self.check_read("a" + sign + "b", ("name", "a" + sign + "b"))
                elif "0" <= sign <= "9":
                    self.check_read(sign, ("number", code - 48))
                    self.check_refused("a" + sign + "b")
                else:
                    self.check_refused(sign)
                    if sign in joining:
                        self.check_read("a" + sign + "b", (joining[sign], A, B))
                    else:
                        self.check_refused("a" + sign + "b")

    def check_as_plain(self, text):
        wanted = plain_read(text)
        try:
            answer = read(text)
        except NoFormula:
            answer = None
        if answer != wanted:
            self.fail(f"{text!r} reads {answer!r}, not {wanted!r}")
        return wanted is not None

    def test_every_short_text(self):
        found = 0
        for many in range(6):
            for signs in itertools.product("a0-+*()", repeat=many):
                found = found + self.check_as_plain("".join(signs))
        self.assertGreater(found, 200)

    def test_mixed_texts(self):
        numbers = mixed_numbers(71)
        words = ["a", "b", "10", "0", "-", "-", "+", "*", "(", "(", ")", ")"]
        for turn in range(4000):
            self.check_as_plain("".join(words[next(numbers) % len(words)] for word in range(1 + turn % 11)))

    # Formulas with one sign taken out, put in or put in another's place: some write another one, most write none.
    def test_texts_that_are_nearly_formulas(self):
        numbers = mixed_numbers(81)
        found = 0
        for turn in range(3000):
            text = shown(mixed_formula(numbers, 1 + turn % 30, [A, B, ("number", 0), ("number", 35)]))
            place = next(numbers) % (len(text) + 1)
            sign = ("", "a", "0", "-", "+", "*", "(", ")", " ")[next(numbers) % 9]
            found = found + self.check_as_plain(text[:place] + sign + text[place + next(numbers) % 2:])
        self.assertGreater(found, 300)
        self.assertLess(found, 2700)

    def test_a_refusal_changes_no_later_answer(self):
        self.check_refused("((a+")
        self.check_read("b", B)
        self.check_refused("--")
        self.check_read("b", B)


if __name__ == "__main__":
    unittest.main()
