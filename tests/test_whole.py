"""What the document promises over the whole program: what is handed in stays, what is told is the asker's own, and
the same questions are answered the same again."""

import ast
import copy
import pathlib
import unittest

import dotpress.carries
import dotpress.depth
import dotpress.desk
import dotpress.errors
import dotpress.fewer
import dotpress.formulas
import dotpress.heap
import dotpress.making
import dotpress.sheet
import dotpress.staged
import dotpress.text
import dotpress.words
from dotpress.sheet import Sheet
from samples import columns_of, heap_of, sheet_of_ins

FORMULA = ("less", ("times", ("name", "a"), ("plus", ("name", "b"), ("number", 3))), ("turned", ("name", "a")))

ROWS = [
    ("in", "a", 0), ("in", "b", 1), ("fix", 1), ("xor", 0, 1), ("and", 3, 2), ("or", 4, 0), ("not", 5), ("xor", 6, 3),
]

WIDTHS = {"a": 3, "b": -4}

WORDS = {"a": 5, "b": -6}

HEAP = [[0, 1, 2, 3, 4], [5], [], [0, 2, 4, 1]]

LOW_HEAP = [[0, 1], [2], [], [3, 4]]

# Each question with what is handed in. Where it is a function of this file, sheets and heaps are made in it anew.
QUESTIONS = [
    (dotpress.words.bits_of, (-6, 5)),
    (dotpress.words.number_of, ([0, 1, 1], True)),
    (dotpress.words.span_of_width, (-7,)),
    (dotpress.words.room_of, ((-9, 4),)),
    (dotpress.sheet.told, (ROWS, WORDS)),
    (dotpress.sheet.beats, (ROWS + [("latch", 7)], [WORDS, {"a": 2, "b": 3}, WORDS])),
    (dotpress.depth.depths, (ROWS,)),
    (dotpress.depth.longest_way, (ROWS, 7)),
    (dotpress.fewer.fewer, (ROWS, [7, 3, 7])),
    (lambda order: pressed(lambda sheet, heap: dotpress.heap.press_by_order(sheet, heap, order), HEAP), ([3, 1, 4],)),
    (lambda dots: pressed(dotpress.heap.press_by_rounds, dots), (HEAP,)),
    (lambda dots: pressed(lambda sheet, heap: heap.press(sheet, 3), dots), (HEAP,)),
    (lambda splits: pressed(lambda sheet, heap: dotpress.carries.summed(sheet, heap, splits), LOW_HEAP), ([2, 1],)),
    (lambda pairs, splits: prefixes_told(pairs, splits), ([(0, 1), (2, 3), (4, 5)], [1])),
    (dotpress.formulas.worth, (FORMULA, WORDS)),
    (dotpress.formulas.span_of, (FORMULA, WIDTHS)),
    (dotpress.text.shown, (FORMULA,)),
    (dotpress.text.read, ("a*(b+3)--a",)),
    (lambda *handed: fields(dotpress.making.circuit_of(*handed)), (FORMULA, WIDTHS)),
    (lambda *handed: fields(dotpress.making.circuit_of(*handed)), (FORMULA, WIDTHS, [2, 5], [3, 1])),
    (dotpress.staged.staged, (ROWS, [7, 0, 7, 2], 2)),
    (lambda lines: desk_told(lines), (["width a 3", "order 4 1", "splits 2", "make a*a-9", "ask a=2", "show --a"],)),
]


def pressed(deed, dots):
    sheet = sheet_of_ins(6)
    heap = heap_of(dots)
    return (deed(sheet, heap), columns_of(heap), heap.heights(), sheet.rows_now())


def prefixes_told(pairs, splits):
    sheet = sheet_of_ins(6)
    return (dotpress.carries.prefixes(sheet, pairs, splits), sheet.rows_now())


def fields(circuit):
    return (circuit.rows, circuit.outs, circuit.below)


def desk_told(lines):
    desk = dotpress.desk.Desk()
    return [desk.say(line) for line in lines]


# Every list and dict within what was told, the outer ones ahead.
def lists_within(told):
    if isinstance(told, (list, tuple)):
        within = [found for part in told for found in lists_within(part)]
    elif isinstance(told, dict):
        within = [found for part in told.values() for found in lists_within(part)]
    else:
        within = []
    return ([told] if isinstance(told, (list, dict)) else []) + within


def spoil(told):
    for found in lists_within(told):
        if isinstance(found, dict):
            found["spoilt"] = 1
        else:
            found.extend(["spoilt"])
            found.reverse()


class WholeTest(unittest.TestCase):
    def test_what_is_handed_in_stays(self):
        for question, handed in QUESTIONS:
            with self.subTest(handed=handed):
                before = copy.deepcopy(handed)
                question(*handed)
                self.assertEqual(handed, before)

    def test_the_same_questions_are_answered_the_same_again(self):
        first = [question(*handed) for question, handed in QUESTIONS]
        for turn in range(2):
            self.assertEqual([question(*handed) for question, handed in QUESTIONS], first)
        backwards = [question(*handed) for question, handed in QUESTIONS[::-1]]
        self.assertEqual(backwards[::-1], first)

    def test_what_is_told_is_the_askers_own(self):
        first = [question(*handed) for question, handed in QUESTIONS]
        kept = copy.deepcopy(first)
        again = [question(*handed) for question, handed in QUESTIONS]
        spoil(again)
        self.assertEqual(first, kept)
        self.assertNotEqual(again, kept)
        self.assertEqual([question(*handed) for question, handed in QUESTIONS], kept)

    def test_nothing_told_is_a_list_that_was_handed_in(self):
        for question, handed in QUESTIONS:
            with self.subTest(handed=handed):
                given = lists_within(handed)
                told = lists_within(question(*handed))
                self.assertFalse(any(one is other for one in given for other in told))
                self.assertEqual(len({id(found) for found in told}), len(told))

    def test_what_is_done_behind_the_call_changes_nothing(self):
        for question, handed in QUESTIONS:
            with self.subTest(handed=handed):
                own = copy.deepcopy(handed)
                told = question(*own)
                kept = copy.deepcopy(told)
                spoil(own)
                self.assertEqual(told, kept)

    def test_lists_of_a_sheet_and_a_heap_are_the_askers_own(self):
        sheet = sheet_of_ins(6)
        heap = heap_of(HEAP)
        kept = copy.deepcopy((sheet.rows_now(), columns_of(heap), heap.heights()))
        spoil([sheet.rows_now(), columns_of(heap), heap.heights()])
        self.assertEqual((sheet.rows_now(), columns_of(heap), heap.heights()), kept)
        earlier = (sheet.rows_now(), columns_of(heap), heap.heights())
        heap.press(sheet, 0)
        heap.put(2, 1)
        self.assertEqual(earlier, kept)

    def test_the_whole_way_from_a_text_to_stages(self):
        formula = dotpress.text.read("(a-b)*(a+b)-3*a")
        circuit = dotpress.making.circuit_of(formula, WIDTHS, [1, 4], [2])
        rows, outs = dotpress.fewer.fewer(circuit.rows, circuit.outs)
        for most in (1, 3, 8):
            new_rows, new_outs, late = dotpress.staged.staged(rows, outs, most)
            fed = [{"a": turn % 8, "b": turn * 3 % 16 - 8} for turn in range(30)]
            every = dotpress.sheet.beats(new_rows, fed + [WORDS] * late)
            for beat, words in enumerate(fed):
                bits = [every[beat + late][out] for out in new_outs]
                worth = dotpress.words.number_of(bits, circuit.below)
                self.assertEqual(worth, dotpress.formulas.worth(formula, words))

    def test_the_modules_and_names_of_the_interface(self):
        wanted = {
            "errors": ["PressError", "TooFew", "TooMany", "TooWide", "NoFormula", "NoName", "NoLine", "NoCircuit",
                       "OutOfWidth"],
            "words": ["bits_of", "number_of", "span_of_width", "room_of"],
            "sheet": ["Sheet", "told", "beats"],
            "depth": ["depths", "longest_way"],
            "fewer": ["fewer"],
            "heap": ["Heap", "press_by_order", "press_by_rounds"],
            "carries": ["joined", "prefixes", "summed"],
            "formulas": ["worth", "span_of"],
            "text": ["shown", "read"],
            "making": ["Circuit", "circuit_of"],
            "staged": ["staged"],
            "desk": ["Desk"],
        }
        for module, names in wanted.items():
            for name in names:
                with self.subTest(module=module, name=name):
                    self.assertTrue(callable(getattr(getattr(dotpress, module), name)))

    def test_each_sheet_begins_empty(self):
        Sheet().add(("fix", 1))
        self.assertEqual(Sheet().rows_now(), [])


class ReadmeTest(unittest.TestCase):
    # Where the remark behind an expression is a plain value, the expression tells this value.
    def run_statement(self, statement, line, names):
        if not isinstance(statement, ast.Expr):
            exec(compile(ast.Module([statement], []), "README.md", "exec"), names)
            return 0
        answer = eval(compile(ast.Expression(statement.value), "README.md", "eval"), names)
        try:
            wanted = ast.literal_eval(line.partition("  # ")[2].strip())
        except SyntaxError:
            return 0
        self.assertEqual(answer, wanted, line)
        return 1

    def test_the_examples_tell_what_they_say(self):
        text = (pathlib.Path(__file__).resolve().parent.parent / "README.md").read_text("utf-8")
        names = {}
        answers = 0
        for block in [part.split("```")[0] for part in text.split("```python\n")[1:]]:
            lines = block.split("\n")
            for statement in ast.parse(block).body:
                answers = answers + self.run_statement(statement, lines[statement.end_lineno - 1], names)
        self.assertGreater(answers, 20)


if __name__ == "__main__":
    unittest.main()
