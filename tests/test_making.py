import copy
import inspect
import itertools
import unittest

from dotpress import making as making_module
from dotpress.errors import NoName, TooWide
from dotpress.fewer import fewer
from dotpress.making import Circuit, circuit_of
from dotpress.sheet import told
from dotpress.text import read
from dotpress.words import number_of
from samples import (
    GREATEST, mixed_formula, mixed_numbers, most_bits, names_in, numbers_of, own_wires, plain_room, plain_spans,
    plain_worth, some_words, worths_told,
)

A = ("name", "a")
B = ("name", "b")

# Rounds and orders, and splits, none at all and some.
ORDERS = [None, [], [0], [5, 0, 2], [10 ** 60, 10 ** 60 - 1, 7, 3], list(range(100))]
SPLITS = [None, [], [0], [3, 1, 4], [10 ** 60, 10 ** 59 + 1], list(range(99, -1, -1))]

SMALL_WIDTHS = [1, 2, 3, -1, -2, -3]

KINDS_OF_TWO = ("plus", "less", "times")

# Sums of sums, products of sums, products of products, turned ones, and numbers in each place.
NESTED = [
    "a+b+c", "a-b-c", "a-(b-c)", "a-(b-(c-a))", "(a+b)+(c+a)", "(a-b)-(c-b)", "-(a+b)", "-(a-b)", "-(-a)", "-(-(a+b))",
    "-a-b", "a--b", "-a*b", "-(a*b)", "a*-b", "-a*-b", "a*b*c", "a*(b*c)", "(a*b)*(c*a)", "(a+b)*c", "a*(b-c)",
    "(a+b)*(c-a)", "(a+b)*(a+b)", "(a-b)*(b-a)", "((a+b)*c+a)*b", "(a*b-c)*(c*a+b)", "a*a", "a*a*a", "a*a-b*b",
    "a*b+b*c+c*a", "a*b-b*c-c*a", "(a-b)*-(c+a)", "-((a*b)*(b-c))-(a-c)", "a-a", "(a-a)*b", "a*(b-b)-c*0",
    "a+5", "5-a", "a*5", "5*a", "a*0", "0*a", "a*1", "-5*a", "a*-5", "(a+5)*(b-3)", "(2+3)*a", "a*(2-3)", "a*(3-3)",
    "(2-9)*(a-b)", "3*a-2*b+7*c-11", "(7-a)*(7-b)*(7-c)", "a*6*b*7", "6*(7*a)", "-(3*a)*b", "-3*-4*a", "a*(0-0)+b",
    "100-a*b*c", "1000000-(a+b)*c", "a*1000-b*999+c", "2*2*2*2*a-16*b", "0-a", "0-0*a-b",
]

WORDS_OF_NUMBERS = [
    "0", "1", "2", "3", "4", "255", "256", "-0", "-1", "-2", "-128", "-129", "3-8", "8-3", "3-3", "(3+4)*(2-9)",
    "-(3*4)", "5*0", "0*0", "-5*-7", "1000000000000", "-1000000000000", "999999999999-1000000000000",
    "1000000000000+1000000000000", "1000000*1000000*200", "7-(-(2-(-4)))*(1+1)",
]


class CircuitCase(unittest.TestCase):
    def setUp(self):
        self.numbers = mixed_numbers(71)

    def check_circuit(self, formula, widths, order=None, splits=None, some=None):
        handed = copy.deepcopy((widths, order, splits))
        circuit = circuit_of(formula, widths, order, splits)
        self.assertEqual((widths, order, splits), handed)
        self.assertEqual(list(widths), list(handed[0]))
        self.check_fields(circuit, formula, widths)
        own = {name: widths[name] for name in sorted(names_in(formula))}
        if some is None:
            some = some_words(self.numbers, own, 30)
        wanted = [plain_worth(formula, words) for words in some]
        self.assertEqual(worths_told(circuit.rows, circuit.outs, circuit.below, some), wanted)
        return circuit

    def check_fields(self, circuit, formula, widths):
        self.assertIs(type(circuit), Circuit)
        self.assertIs(type(circuit.rows), list)
        self.assertIs(type(circuit.outs), list)
        many, below = plain_room(plain_spans(formula, widths)[-1])
        self.assertEqual(len(circuit.outs), many)
        self.assertIs(circuit.below, below)
        for out in circuit.outs:
            self.assertIs(type(out), int)
            self.assertIn(out, range(len(circuit.rows)))
        self.check_rows(circuit.rows, {name: widths[name] for name in names_in(formula)})

    def check_rows(self, rows, widths):
        for wire, row in enumerate(rows):
            self.assertIs(type(row), tuple)
            self.assertIn(row[0], ("fix", "in", "not", "and", "or", "xor"))
            self.assertEqual(len(row), 2 if row[0] in ("fix", "not") else 3)
            if row[0] == "in":
                self.assertIn(row[1], widths)
                self.assertIs(type(row[2]), int)
                self.assertIn(row[2], range(abs(widths[row[1]])))
            elif row[0] == "fix":
                self.assertIs(type(row[1]), int)
                self.assertIn(row[1], (0, 1))
            self.assertTrue(all(type(own) is int and 0 <= own < wire for own in own_wires(row)))

    def check_refused(self, refusal, formula, widths, order=None, splits=None):
        handed = copy.deepcopy((widths, order, splits))
        with self.assertRaises(refusal) as caught:
            circuit_of(formula, widths, order, splits)
        self.assertIs(type(caught.exception), refusal)
        self.assertEqual((widths, order, splits), handed)


class InterfaceTest(unittest.TestCase):
    def test_arguments(self):
        arguments = inspect.signature(making_module.circuit_of).parameters
        self.assertEqual(list(arguments), ["formula", "widths", "order", "splits"])
        self.assertEqual([arguments[name].default for name in ("order", "splits")], [None, None])
        for name in ("formula", "widths"):
            self.assertIs(arguments[name].default, inspect.Parameter.empty)

    def test_by_names_of_the_arguments(self):
        circuit = circuit_of(formula=A, widths={"a": 2}, order=[1], splits=[2])
        self.assertEqual(worths_told(circuit.rows, circuit.outs, circuit.below, [{"a": 2}]), [2])


class KindsTest(CircuitCase):
    def test_names_of_every_width(self):
        for width in range(1, 25):
            self.check_circuit(A, {"a": width})
            self.check_circuit(("name", "zzzzzz"), {"zzzzzz": -width})

    def test_known_outs_of_a_name(self):
        circuit = circuit_of(A, {"a": -3})
        self.assertEqual(len(circuit.outs), 3)
        self.assertIs(circuit.below, True)
        cases = [(-4, [0, 0, 1]), (-3, [1, 0, 1]), (-1, [1, 1, 1]), (0, [0, 0, 0]), (3, [1, 1, 0])]
        for number, wanted in cases:
            bits = told(circuit.rows, {"a": number})
            self.assertEqual([bits[out] for out in circuit.outs], wanted)

    def test_known_rooms(self):
        cases = [
            ("0", 1, False), ("1", 1, False), ("2", 2, False), ("-1", 1, True), ("-2", 2, True), ("-3", 3, True),
            ("a", 3, False), ("b", 4, True), ("a+a", 4, False), ("a-a", 4, True), ("-a", 4, True), ("-b", 5, True),
            ("a*a", 6, False), ("a*b", 7, True), ("b*b", 8, True), ("0*b", 1, False), ("a-7", 4, True),
            ("b+8", 4, False), ("b+7", 5, True), ("1000000000000", 40, False), ("-1000000000000", 41, True),
        ]
        for text, many, below in cases:
            with self.subTest(text=text):
                circuit = circuit_of(read(text), {"a": 3, "b": -4})
                self.assertEqual(len(circuit.outs), many)
                self.assertIs(circuit.below, below)

    def test_each_kind_of_two_small_names(self):
        for kind, first, second in itertools.product(KINDS_OF_TWO, SMALL_WIDTHS, SMALL_WIDTHS):
            with self.subTest(kind=kind, first=first, second=second):
                self.check_circuit((kind, A, B), {"a": first, "b": second})

    def test_each_kind_of_one_name_twice(self):
        for kind, width in itertools.product(KINDS_OF_TWO, SMALL_WIDTHS + [7, -7]):
            with self.subTest(kind=kind, width=width):
                self.check_circuit((kind, A, A), {"a": width})
                self.check_circuit((kind, ("turned", A), A), {"a": width})

    def test_turned_names(self):
        for width in SMALL_WIDTHS + [8, -8, 24, -24]:
            self.check_circuit(("turned", A), {"a": width})
            self.check_circuit(("turned", ("turned", A)), {"a": width})

    def test_each_kind_of_a_name_and_a_number(self):
        some = [0, 1, 2, 3, 7, 8, 1023, 1024, GREATEST]
        for kind, number, width in itertools.product(KINDS_OF_TWO, some, [1, 3, 7, -1, -3, -7]):
            with self.subTest(kind=kind, number=number, width=width):
                self.check_circuit((kind, A, ("number", number)), {"a": width})
                self.check_circuit((kind, ("number", number), A), {"a": width})

    def test_numbers_alone(self):
        for text in WORDS_OF_NUMBERS:
            for order, splits in [(None, None), ([], []), ([4, 1], [2, 0, 5])]:
                with self.subTest(text=text, order=order, splits=splits):
                    circuit = self.check_circuit(read(text), {}, order, splits)
                    self.assertEqual([row for row in circuit.rows if row[0] == "in"], [])

    def test_the_bits_told_by_the_program_itself(self):
        circuit = circuit_of(read("a*(b-3)--a"), {"a": 3, "b": -4}, [2, 1], [1])
        for first, second in itertools.product(range(8), range(-8, 8)):
            bits = told(circuit.rows, {"a": first, "b": second})
            self.assertTrue(all(type(bit) is int for bit in bits))
            worth = number_of([bits[out] for out in circuit.outs], circuit.below)
            self.assertEqual(worth, first * (second - 3) + first)


class NestedTest(CircuitCase):
    def test_nested_formulas_of_small_widths(self):
        for text in NESTED:
            for widths in [{"a": 3, "b": 2, "c": 2}, {"a": -2, "b": -3, "c": -2}, {"a": -3, "b": 2, "c": -1}]:
                with self.subTest(text=text, widths=widths):
                    self.check_circuit(read(text), widths)

    def test_nested_formulas_by_orders_and_splits(self):
        for place, text in enumerate(NESTED):
            order = ORDERS[place % len(ORDERS)]
            splits = SPLITS[(place // 2) % len(SPLITS)]
            with self.subTest(text=text, order=order, splits=splits):
                self.check_circuit(read(text), {"a": -3, "b": 2, "c": 3}, order, splits)

    def test_nested_formulas_of_wider_words(self):
        for text in NESTED:
            for widths in [{"a": 10, "b": 9, "c": 8}, {"a": -9, "b": -10, "c": 7}]:
                formula = read(text)
                with self.subTest(text=text, widths=widths):
                    self.assertLessEqual(most_bits(formula, widths), 48)
                    self.check_circuit(formula, widths)

    def test_every_order_with_every_splits(self):
        formula = read("(a-b)*(c+3)-a*b*-2")
        for order, splits in itertools.product(ORDERS, SPLITS):
            with self.subTest(order=order, splits=splits):
                self.check_circuit(formula, {"a": 3, "b": -3, "c": -2}, order, splits)

    def test_every_width_of_a_product_and_a_sum(self):
        for first, second in itertools.product(range(-4, 5), range(-4, 5)):
            if first != 0 and second != 0:
                with self.subTest(first=first, second=second):
                    self.check_circuit(read("(a+b)*(a-b)"), {"a": first, "b": second})
                    self.check_circuit(read("-a*(b-1)+b"), {"a": first, "b": second})

    def test_parts_of_less_room_in_sums_and_of_more(self):
        # The whole has fewer bits than a part of it.
        for text in ["a*0+1", "(a*1000000000000)*0", "1000000000000-1000000000000", "(a+1000)-1000-0*a", "0*(a*b)-b*0"]:
            with self.subTest(text=text):
                self.check_circuit(read(text), {"a": 5, "b": -4}, [1, 2], [0])
                self.check_circuit(read(text), {"a": -5, "b": 4})


class MixedTest(CircuitCase):
    def check_mixed(self, many, leaves, widths):
        formula = mixed_formula(self.numbers, many, leaves)
        order = ORDERS[next(self.numbers) % len(ORDERS)]
        splits = SPLITS[next(self.numbers) % len(SPLITS)]
        with self.subTest(formula=formula, widths=widths, order=order, splits=splits):
            if most_bits(formula, widths) > 48:
                self.check_refused(TooWide, formula, widths, order, splits)
                return False
            self.check_circuit(formula, widths, order, splits)
            return True

    def mixed_widths(self, widest):
        signs = [1, -1]
        return {name: signs[next(self.numbers) % 2] * (1 + next(self.numbers) % widest) for name in "abcd"}

    def test_mixed_formulas_of_small_widths(self):
        leaves = [("name", name) for name in "abcd"] + [("number", number) for number in (0, 1, 2, 3)]
        made = [self.check_mixed(1 + turn % 30, leaves, self.mixed_widths(3)) for turn in range(300)]
        self.assertGreater(made.count(True), 250)

    def test_mixed_formulas_of_every_width(self):
        leaves = [("name", name) for name in "abcd"] + [("number", number) for number in (0, 5, 1000, GREATEST)]
        made = [self.check_mixed(1 + turn % 30, leaves, self.mixed_widths(24)) for turn in range(300)]
        self.assertGreater(made.count(True), 80)
        self.assertGreater(made.count(False), 20)

    def test_thirty_parts(self):
        leaves = [("name", name) for name in "abcd"] + [("number", 1), ("number", 6)]
        made = [self.check_mixed(30, leaves, self.mixed_widths(4)) for turn in range(60)]
        self.assertGreater(made.count(True), 30)

    def test_thirty_parts_within_one_another(self):
        for kind in ("plus", "less"):
            left = A
            right = A
            for turn in range(14):
                leaf = (B, ("number", GREATEST), A)[turn % 3]
                left = (kind, left, leaf)
                right = (kind, leaf, right)
            for widths in [{"a": 24, "b": -24}, {"a": -24, "b": 24}, {"a": 1, "b": -1}]:
                self.check_circuit(("turned", left), widths)
                self.check_circuit(("turned", right), widths, [3, 2, 9], [7])
        turned = A
        for turn in range(29):
            turned = ("turned", turned)
        self.check_circuit(turned, {"a": -8})

    def test_a_product_of_fifteen_bits(self):
        product = A
        for turn in range(14):
            product = ("times", product, (A, B)[turn % 2])
        for widths in [{"a": 1, "b": 1}, {"a": -1, "b": -1}, {"a": 3, "b": 3}, {"a": -3, "b": 3}, {"a": 2, "b": -2}]:
            self.check_circuit(product, widths)
            self.check_circuit(("turned", product), widths, [1, 5])


class WidestTest(CircuitCase):
    def test_widest_rooms_that_are_made(self):
        cases = [
            ("a*a", {"a": 24}, 48, False),
            ("a*b", {"a": 24, "b": 24}, 48, False),
            ("a*b+a+b", {"a": 24, "b": 24}, 48, False),
            ("a*b", {"a": -24, "b": -24}, 48, True),
            ("a*b", {"a": -24, "b": 24}, 48, True),
            ("a*16777216", {"a": -24}, 48, True),
            ("(a+b)*(a+b)", {"a": 23, "b": 23}, 48, False),
            ("(a-b)*(a-b)", {"a": 23, "b": 23}, 47, True),
            ("1000000000000*a", {"a": 8}, 48, False),
            ("-(1000000000000*a)", {"a": 7}, 48, True),
            ("a*b*c", {"a": 24, "b": 12, "c": 12}, 48, False),
            ("a*(b*c)", {"a": -16, "b": 16, "c": 16}, 48, True),
            ("a*b-a*b", {"a": 23, "b": 24}, 48, True),
        ]
        for text, widths, many, below in cases:
            for order, splits in [(None, None), ([], []), ([5, 3, 8], [9, 2])]:
                with self.subTest(text=text, widths=widths, order=order):
                    circuit = self.check_circuit(read(text), widths, order, splits)
                    self.assertEqual((len(circuit.outs), circuit.below), (many, below))

    def test_the_ends_of_the_widest_rooms(self):
        most = 2 ** 24 - 1
        circuit = circuit_of(read("a*b+a+b"), {"a": 24, "b": 24})
        some = [{"a": most, "b": most}, {"a": 0, "b": 0}, {"a": most, "b": 0}]
        self.assertEqual(worths_told(circuit.rows, circuit.outs, False, some), [2 ** 48 - 1, 0, most])
        circuit = circuit_of(read("a*16777216"), {"a": -24})
        some = [{"a": -(2 ** 23)}, {"a": 2 ** 23 - 1}, {"a": -1}]
        wanted = [-(2 ** 47), 2 ** 47 - 2 ** 24, -(2 ** 24)]
        self.assertEqual(worths_told(circuit.rows, circuit.outs, True, some), wanted)

    def test_one_bit_too_many(self):
        cases = [
            ("a*b+a+b+1", {"a": 24, "b": 24}),
            ("1+(a*b+a+b)", {"a": 24, "b": 24}),
            ("a*16777216-1", {"a": -24}),
            ("a*-16777216", {"a": -24}),
            ("-(a*16777216)", {"a": -24}),
            ("-(a*b)", {"a": 24, "b": 24}),
            ("a*b-1", {"a": 24, "b": 24}),
            ("1000000000000*a", {"a": 9}),
            ("1000000000000*282", {}),
            ("1000000000000*1000000000000", {}),
            ("a*a*a", {"a": 24}),
        ]
        for text, widths in cases:
            with self.subTest(text=text):
                self.check_refused(TooWide, read(text), widths)
                self.check_refused(TooWide, read(text), widths, [], [3])

    def test_numbers_alone_up_to_the_bound(self):
        self.check_circuit(read("1000000000000*281"), {})
        self.check_circuit(read("-(1000000000000*140)"), {})
        self.check_refused(TooWide, read("-(1000000000000*141)"), {})
        # 2 ** 48 - 1 and one more; 2 ** 47 turned and one less.
        self.check_circuit(read("16777216*16777215+16777215"), {})
        self.check_refused(TooWide, read("16777216*16777215+16777216"), {})
        self.check_circuit(read("-(16777216*8388608)"), {})
        self.check_refused(TooWide, read("-(16777216*8388608)-1"), {})

    def test_a_part_with_a_bit_too_many(self):
        wide = "(a*b+a+b+1)"
        texts = [
            f"0*{wide}", f"{wide}*0", f"1+0*{wide}", f"0*{wide}+1", f"a-0*{wide}", f"0*-{wide}", f"-(0*{wide})",
            f"0*({wide}-{wide})", f"a*(0*{wide})", f"(0*{wide})*a", f"0*(b*(a+0*{wide}))", f"0*({wide}*0)",
        ]
        for text in texts:
            with self.subTest(text=text):
                self.check_refused(TooWide, read(text), {"a": 24, "b": 24})
                self.check_circuit(read(text), {"a": 3, "b": 2})
                self.check_circuit(read(text.replace("+1)", ")")), {"a": 24, "b": 20})

    def test_a_refusal_changes_no_later_circuit(self):
        wanted = circuit_of(read("a*b"), {"a": 3, "b": 3})
        self.check_refused(TooWide, read("a*b*a"), {"a": 24, "b": 24})
        self.check_refused(NoName, read("a*b*c"), {"a": 24, "b": 24})
        again = circuit_of(read("a*b"), {"a": 3, "b": 3})
        self.assertEqual((again.rows, again.outs, again.below), (wanted.rows, wanted.outs, wanted.below))


class NoNameTest(CircuitCase):
    def test_a_name_without_a_width(self):
        texts = ["c", "-c", "a+c", "c+a", "a-c", "a*c", "c*a", "a*(b-c)", "(a+b)*(a+b)-(b-c*a)", "0*c", "c-c", "5+c"]
        for text in texts:
            with self.subTest(text=text):
                self.check_refused(NoName, read(text), {"a": 3, "b": -2})
                self.check_refused(NoName, read(text), {"a": 3, "b": -2}, [1], [2])
                self.check_circuit(read(text), {"a": 3, "b": -2, "c": 3})
        self.check_refused(NoName, A, {})
        self.check_refused(NoName, A, {"aa": 3})
        self.check_refused(NoName, ("name", "aa"), {"a": 3})

    def test_no_name_goes_ahead_of_too_wide(self):
        for text in ["a*a*a+c", "c+a*a*a", "a*a*a*c", "c*(a*a*a)", "-(a*a*a)-c", "c-1000000000000*1000000000000"]:
            with self.subTest(text=text):
                self.check_refused(NoName, read(text), {"a": 24})
                self.check_refused(TooWide, read(text), {"a": 24, "c": 1})

    def test_widths_of_names_that_the_formula_has_not(self):
        self.check_circuit(A, {"b": 24, "a": 2, "c": -24})
        self.check_circuit(("number", 9), {"a": 24})


class OwnTest(CircuitCase):
    def test_what_is_handed_in_is_changed_behind_the_call(self):
        widths = {"a": 3, "b": -3}
        order = [2, 7]
        splits = [1, 4]
        circuit = circuit_of(read("a*b-a"), widths, order, splits)
        kept = (list(circuit.rows), list(circuit.outs), circuit.below)
        widths["a"] = 1
        widths.clear()
        order.append(5)
        splits.clear()
        self.assertEqual((circuit.rows, circuit.outs, circuit.below), kept)
        again = circuit_of(read("a*b-a"), {"a": 3, "b": -3}, [2, 7], [1, 4])
        self.assertEqual((again.rows, again.outs, again.below), kept)

    def test_a_changed_circuit_changes_no_later_one(self):
        for order, splits in [(None, None), ([], []), ([3], [2])]:
            first = circuit_of(read("a*b-a"), {"a": 3, "b": -3}, order, splits)
            kept = (list(first.rows), list(first.outs), first.below)
            first.rows.clear()
            first.outs.append(0)
            first.below = None
            again = circuit_of(read("a*b-a"), {"a": 3, "b": -3}, order, splits)
            self.assertEqual((again.rows, again.outs, again.below), kept)

    def test_a_circuit_told_earlier_stays(self):
        first = circuit_of(read("a*b-a"), {"a": 3, "b": -3})
        kept = (list(first.rows), list(first.outs), first.below)
        circuit_of(read("a+b"), {"a": 5, "b": 2}, [1])
        self.assertEqual((first.rows, first.outs, first.below), kept)

    def test_a_circuit_made_fewer_tells_the_same(self):
        formula = read("(a-b)*(c+3)-a*b*-2")
        widths = {"a": 3, "b": -3, "c": -2}
        circuit = circuit_of(formula, widths, [1, 2, 3], [4])
        rows, outs = fewer(circuit.rows, circuit.outs)
        some = some_words(self.numbers, widths, 0)
        wanted = [plain_worth(formula, words) for words in some]
        self.assertEqual(worths_told(rows, outs, circuit.below, some), wanted)

    def test_somewhat_beyond_the_bounds(self):
        self.check_circuit(read("a*b-c"), {"a": 25, "b": -22, "c": 40}, [3] * 120, [10 ** 61] * 130)
        self.check_circuit(A, {"a": 48})
        self.check_refused(TooWide, A, {"a": 49})
        self.check_circuit(("times", ("number", 10 ** 13), A), {"a": 4})
        self.check_circuit(read("+".join(["a*b"] * 20)), {"a": 4, "b": -4}, [10 ** 70, 1])


class ModelsTest(unittest.TestCase):
    # The checks above go by these, so they are looked at themselves.
    def test_the_models(self):
        self.assertEqual([list(numbers_of(width)) for width in (2, -1, -2)], [[0, 1, 2, 3], [-1, 0], [-2, -1, 0, 1]])
        self.assertEqual(plain_spans(read("a*(b-3)"), {"a": 3, "b": -4})[-1], (-77, 28))
        self.assertEqual([plain_room(span) for span in [(0, 0), (0, 4), (3, 7)]], [(1, False), (3, False), (3, False)])
        spans = [(-1, 0), (-4, 3), (-4, 4), (-5, -5), (-4, -4)]
        self.assertEqual([plain_room(span) for span in spans], [(1, True), (3, True), (4, True), (4, True), (3, True)])


if __name__ == "__main__":
    unittest.main()
