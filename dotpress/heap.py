"""Heaps of dots, and the presses that make three dots into two."""

from dotpress.errors import TooFew


class Heap:
    def __init__(self, many):
        self.columns = [[] for place in range(many)]
        # How many dots at each column's begin are taken out. They stay in the list, as a list that loses its first
        # ones moves all others, and a high column would be slow to press.
        self.gone = [0] * many

    def put(self, column, wire):
        if column < len(self.columns):
            self.columns[column].append(wire)

    def heights(self):
        return [len(dots) - gone for dots, gone in zip(self.columns, self.gone)]

    def column(self, k):
        # What is put beyond the last column is passed over, so no dots lie there.
        if k >= len(self.columns):
            return []
        return self.columns[k][self.gone[k]:]

    def press(self, sheet, k):
        if k >= len(self.columns) or len(self.columns[k]) - self.gone[k] < 3:
            raise TooFew(f"column {k} has fewer than three dots")
        begin = self.gone[k]
        made = odd_and_carry(sheet, self.columns[k][begin:begin + 3])
        self.gone[k] = begin + 3
        self.put(k, made[0])
        self.put(k + 1, made[1])
        return made


def odd_and_carry(sheet, dots):
    half = sheet.add(("xor", dots[0], dots[1]))
    odd = sheet.add(("xor", half, dots[2]))
    both = sheet.add(("and", dots[0], dots[1]))
    passed = sheet.add(("and", half, dots[2]))
    return (odd, sheet.add(("or", both, passed)))


def press_by_order(sheet, heap, order):
    pressed = []
    high = high_columns(heap)
    while len(high) > 0:
        # One number goes to each press, so the presses so far tell which one is next.
        number = order[len(pressed) % len(order)] if len(order) > 0 else 0
        k = high[number % len(high)]
        heap.press(sheet, k)
        pressed.append(k)
        high = high_columns(heap)
    return pressed


def high_columns(heap):
    return [k for k, height in enumerate(heap.heights()) if height >= 3]


def press_by_rounds(sheet, heap):
    rounds = 0
    heights = heap.heights()
    while max(heights, default=0) >= 3:
        for k, height in enumerate(heights):
            # New dots lie behind the old ones, so this many presses take old ones alone.
            for turn in range(height // 3):
                heap.press(sheet, k)
        rounds = rounds + 1
        heights = heap.heights()
    return rounds
