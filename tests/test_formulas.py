import inspect
import itertools
import unittest

from dotpress import formulas as formulas_module
from dotpress.formulas import span_of, worth
from samples import mixed_formula, mixed_numbers, names_in, numbers_of, plain_worth

A = ("name", "a")
B = ("name", "b")
C = ("name", "c")

GREATEST = 10 ** 12

SIXTY_FIGURES = 10 ** 60 - 1

LEAVES = [
    A, B, C, ("name", "words"), ("name", "zzzzzz"), ("number", 0), ("number", 1), ("number", 7), ("number", GREATEST),
]


def parts_in(formula):
    if formula[0] in ("name", "number"):
        return 1
    return 1 + sum(parts_in(part) for part in formula[1:])


# Each part the left (or right) one of the next, 29 parts and one around them.
def chained(kind, leaves, left):
    formula = leaves[0]
    for turn in range(14):
        leaf = leaves[(turn + 1) % len(leaves)]
        formula = (kind, formula, leaf) if left else (kind, leaf, formula)
    return ("turned", formula)


def turned(formula, times):
    for turn in range(times):
        formula = ("turned", formula)
    return formula


DEEP_FORMULAS = [chained(kind, [A, B, C], left) for kind in ("plus", "less", "times") for left in (True, False)]
DEEP_FORMULAS.extend([turned(A, 29), turned(("number", 5), 29)])
DEEP_FORMULAS.extend([turned(("less", A, B), 27), turned(("times", A, B), 27)])


class InterfaceTest(unittest.TestCase):
    def test_arguments(self):
        wanted = {"worth": ["formula", "words"], "span_of": ["formula", "widths"]}
        for name, arguments in wanted.items():
            with self.subTest(name=name):
                self.assertEqual(list(inspect.signature(getattr(formulas_module, name)).parameters), arguments)


class WorthTest(unittest.TestCase):
    def check_worth(self, formula, words, wanted):
        before = dict(words)
        answer = worth(formula, words)
        self.assertIs(type(answer), int)
        self.assertEqual(answer, wanted)
        self.assertEqual(words, before)
        self.assertEqual(list(words), list(before))

    def test_each_kind(self):
        words = {"a": 6, "b": -4, "c": 11, "words": 3}
        cases = [
            (A, 6),
            (B, -4),
            (("name", "words"), 3),
            (("number", 0), 0),
            (("number", 9), 9),
            (("number", GREATEST), GREATEST),
            (("plus", A, B), 2),
            (("plus", B, A), 2),
            (("less", A, B), 10),
            (("less", B, A), -10),
            (("times", A, B), -24),
            (("times", B, B), 16),
            (("turned", A), -6),
            (("turned", B), 4),
            (("turned", ("number", 0)), 0),
            (("less", A, A), 0),
        ]
        for formula, wanted in cases:
            with self.subTest(formula=formula):
                self.check_worth(formula, words, wanted)

    def test_parts_within_parts_keep_their_places(self):
        words = {"a": 100, "b": 20, "c": 3}
        cases = [
            (("less", ("less", A, B), C), 77),
            (("less", A, ("less", B, C)), 83),
            (("less", ("less", A, B), ("less", C, A)), 177),
            (("less", ("turned", A), ("turned", B)), -80),
            (("turned", ("less", A, B)), -80),
            (("times", ("less", A, B), ("less", B, C)), 1360),
            (("less", ("times", A, B), C), 1997),
            (("less", A, ("times", B, C)), 40),
            (("less", ("plus", A, ("turned", B)), ("times", C, ("less", B, A))), 320),
        ]
        for formula, wanted in cases:
            with self.subTest(formula=formula):
                self.check_worth(formula, words, wanted)

    def test_numbers_of_sixty_figures(self):
        some = [SIXTY_FIGURES, -SIXTY_FIGURES, 10 ** 59, -(10 ** 59), 10 ** 59 + 1, 0]
        for a, b in itertools.product(some, repeat=2):
            words = {"a": a, "b": b}
            with self.subTest(words=words):
                self.check_worth(A, words, a)
                self.check_worth(("plus", A, B), words, a + b)
                self.check_worth(("less", A, B), words, a - b)
                self.check_worth(("times", A, B), words, a * b)
                self.check_worth(("turned", A), words, -a)

    def test_thirty_parts_within_one_another(self):
        for formula in DEEP_FORMULAS:
            self.assertEqual(parts_in(formula), 30)
            for words in ({"a": 2, "b": 5, "c": -3}, {"a": -SIXTY_FIGURES, "b": 10 ** 59 + 3, "c": SIXTY_FIGURES}):
                with self.subTest(formula=formula):
                    self.check_worth(formula, words, plain_worth(formula, words))

    def test_known_worths_of_thirty_parts(self):
        words = {"a": 2, "b": 5, "c": -3}
        self.check_worth(turned(A, 29), words, -2)
        self.check_worth(turned(A, 28), words, 2)
        self.check_worth(chained("plus", [("number", 1)], True), {}, -15)
        self.check_worth(chained("plus", [("number", 1)], False), {}, -15)
        self.check_worth(chained("less", [("number", 1)], True), {}, 13)
        self.check_worth(chained("less", [("number", 1)], False), {}, -1)
        self.check_worth(chained("times", [("number", 2)], True), {}, -32768)
        self.check_worth(chained("times", [("number", GREATEST)], False), {}, -(10 ** 180))

    def test_mixed_formulas(self):
        numbers = mixed_numbers(21)
        for turn in range(400):
            formula = mixed_formula(numbers, 1 + turn % 30, LEAVES)
            self.assertEqual(parts_in(formula), 1 + turn % 30)
            words = {name: next(numbers) % 2001 - 1000 for name in names_in(formula)}
            with self.subTest(formula=formula, words=words):
                self.check_worth(formula, words, plain_worth(formula, words))

    def test_names_that_are_not_needed(self):
        self.check_worth(("number", 4), {"a": 1, "b": 2}, 4)
        self.check_worth(A, {"b": 7, "a": 1}, 1)

    def test_the_dict_changed_behind_the_call(self):
        words = {"a": 4}
        formula = ("plus", A, ("number", 1))
        first = worth(formula, words)
        words["a"] = 9
        self.assertEqual(first, 5)
        self.assertEqual(worth(formula, words), 10)

    def test_somewhat_beyond_the_bounds(self):
        formula = turned(chained("plus", [A, B], True), 40)
        self.check_worth(formula, {"a": 10 ** 80, "b": 1}, -(8 * 10 ** 80 + 7))
        self.check_worth(("number", 10 ** 13), {}, 10 ** 13)
        self.check_worth(("number", -5), {}, -5)
        self.check_worth(("name", "letters"), {"letters": 3}, 3)


class SpanOfTest(unittest.TestCase):
    def check_span(self, formula, widths, wanted):
        before = dict(widths)
        answer = span_of(formula, widths)
        self.assertIs(type(answer), tuple)
        self.assertEqual(answer, wanted)
        self.assertTrue(all(type(end) is int for end in answer))
        self.assertEqual(widths, before)
        self.assertEqual(list(widths), list(before))

    def test_each_kind(self):
        widths = {"a": 3, "b": -4, "c": 1, "d": -1}
        d = ("name", "d")
        cases = [
            (A, (0, 7)),
            (B, (-8, 7)),
            (C, (0, 1)),
            (d, (-1, 0)),
            (("number", 0), (0, 0)),
            (("number", 5), (5, 5)),
            (("number", GREATEST), (GREATEST, GREATEST)),
            (("plus", A, B), (-8, 14)),
            (("plus", B, A), (-8, 14)),
            (("plus", B, B), (-16, 14)),
            (("less", A, B), (-7, 15)),
            (("less", B, A), (-15, 7)),
            (("less", A, A), (-7, 7)),
            (("less", B, B), (-15, 15)),
            (("times", A, A), (0, 49)),
            (("times", A, B), (-56, 49)),
            (("times", B, A), (-56, 49)),
            (("times", B, B), (-56, 64)),
            (("times", d, d), (0, 1)),
            (("times", d, A), (-7, 0)),
            (("turned", A), (-7, 0)),
            (("turned", B), (-7, 8)),
            (("turned", ("number", 5)), (-5, -5)),
            (("turned", ("number", 0)), (0, 0)),
        ]
        for formula, wanted in cases:
            with self.subTest(formula=formula):
                self.check_span(formula, widths, wanted)

    def test_every_width(self):
        for width in range(1, 25):
            self.check_span(A, {"a": width}, (0, 2 ** width - 1))
            self.check_span(A, {"a": -width}, (-(2 ** (width - 1)), 2 ** (width - 1) - 1))
            self.check_span(("turned", A), {"a": width}, (1 - 2 ** width, 0))
            self.check_span(("turned", A), {"a": -width}, (1 - 2 ** (width - 1), 2 ** (width - 1)))

    # Spans above 0, below 0 and across 0, some with an end at 0, as a name and a number make them.
    def test_products_of_spans_above_below_and_across(self):
        ends = [(2, 9), (0, 7), (-9, -2), (-7, 0), (-3, 12), (-12, 3), (-5, 10), (5, 5), (0, 0), (-4, -4)]

        def spanned(name, low, high):
            # From 0 to 2 ** width - 1, times a number and moved.
            if low == high:
                return ("number", low) if low >= 0 else ("turned", ("number", -low))
            wide = ("times", ("name", name), ("number", high - low))
            return ("plus", wide, ("number", low)) if low >= 0 else ("less", wide, ("number", -low))

        widths = {"a": 1, "b": 1}
        for (low, high), (other_low, other_high) in itertools.product(ends, repeat=2):
            first = spanned("a", low, high)
            second = spanned("b", other_low, other_high)
            self.check_span(first, widths, (low, high))
            every = [one * other for one in range(low, high + 1) for other in range(other_low, other_high + 1)]
            with self.subTest(first=(low, high), second=(other_low, other_high)):
                self.check_span(("times", first, second), widths, (min(every), max(every)))

    def test_a_span_goes_by_the_ends_of_its_parts(self):
        # A name that stands twice is not known to be the same number.
        self.check_span(("less", A, A), {"a": 4}, (-15, 15))
        self.check_span(("times", A, A), {"a": -4}, (-56, 64))
        self.check_span(("times", ("less", A, A), ("less", A, A)), {"a": 2}, (-9, 9))
        self.check_span(("plus", A, ("turned", A)), {"a": 2}, (-3, 3))

    def test_parts_within_parts_keep_their_places(self):
        widths = {"a": 3, "b": -3, "c": 1}
        cases = [
            (("less", ("less", A, B), C), (-4, 11)),
            (("less", A, ("less", B, C)), (-3, 12)),
            (("times", ("less", A, B), C), (-3, 11)),
            (("times", ("turned", A), ("plus", B, C)), (-28, 28)),
            (("turned", ("times", A, B)), (-21, 28)),
            (("less", ("times", A, A), ("times", B, B)), (-16, 61)),
        ]
        for formula, wanted in cases:
            with self.subTest(formula=formula):
                self.check_span(formula, widths, wanted)

    # Where each name stands once, both ends of the span are worths, so all numbers tell the span.
    def test_both_ends_are_worths_where_each_name_stands_once(self):
        numbers = mixed_numbers(31)
        kinds = ("plus", "less", "times")
        for turn in range(60):
            kind = [kinds[next(numbers) % 3] for part in range(3)]
            d = ("turned", ("name", "d"))
            formula = (kind[0], (kind[1], A, ("turned", B)), (kind[2], C, d))
            if turn % 2 == 0:
                formula = (kind[0], A, (kind[1], (kind[2], B, C), d))
            widths = {name: (1 + next(numbers) % 3) * (1 if next(numbers) % 2 else -1) for name in "abcd"}
            every = itertools.product(*[numbers_of(widths[name]) for name in "abcd"])
            worths = [plain_worth(formula, dict(zip("abcd", some))) for some in every]
            with self.subTest(formula=formula, widths=widths):
                self.check_span(formula, widths, (min(worths), max(worths)))

    def test_the_worth_lies_in_the_span(self):
        numbers = mixed_numbers(41)
        for turn in range(300):
            formula = mixed_formula(numbers, 1 + turn % 30, LEAVES)
            names = sorted(names_in(formula))
            widths = {name: (1 + next(numbers) % 24) * (1 if next(numbers) % 2 else -1) for name in names}
            low, high = span_of(formula, widths)
            self.assertLessEqual(low, high)
            for pick in range(8):
                words = {}
                for name in names:
                    every = numbers_of(widths[name])
                    words[name] = every[(0, -1, next(numbers) % len(every))[next(numbers) % 3]]
                with self.subTest(formula=formula, widths=widths, words=words):
                    answer = worth(formula, words)
                    self.assertLessEqual(low, answer)
                    self.assertLessEqual(answer, high)

    def test_thirty_parts_within_one_another(self):
        widths = {"a": 24, "b": -24, "c": -1}
        a, b, c = (0, 2 ** 24 - 1), (-(2 ** 23), 2 ** 23 - 1), (-1, 0)
        self.check_span(turned(A, 29), widths, (1 - 2 ** 24, 0))
        self.check_span(turned(B, 28), widths, b)
        low, high = [5 * (a[k] + b[k] + c[k]) for k in (0, 1)]
        for left in (True, False):
            self.check_span(chained("plus", [A, B, C], left), widths, (-high, -low))
        self.check_span(chained("times", [A], True), widths, (-((2 ** 24 - 1) ** 15), 0))
        self.check_span(chained("times", [B], False), widths, (-(2 ** (23 * 14)) * (2 ** 23 - 1), 2 ** (23 * 15)))
        self.check_span(chained("less", [A], True), widths, (1 - 2 ** 24, 14 * (2 ** 24 - 1)))

    def test_names_that_are_not_needed(self):
        self.check_span(("number", 4), {"a": 1}, (4, 4))
        self.check_span(A, {"b": -3, "a": 2}, (0, 3))

    def test_the_dict_changed_behind_the_call(self):
        widths = {"a": 4}
        first = span_of(A, widths)
        widths["a"] = -2
        self.assertEqual(first, (0, 15))
        self.assertEqual(span_of(A, widths), (-2, 1))

    def test_somewhat_beyond_the_bounds(self):
        self.check_span(turned(("plus", A, ("number", 10 ** 13)), 40), {"a": 30}, (10 ** 13, 10 ** 13 + 2 ** 30 - 1))
        self.check_span(A, {"a": -40}, (-(2 ** 39), 2 ** 39 - 1))


if __name__ == "__main__":
    unittest.main()
