"""Pairs that make and pass carries, joined along splits, and the heaps that are summed by them."""

from dotpress.errors import TooMany


class Partings:
    def __init__(self, splits):
        self.splits = splits
        self.taken = 0

    # How many columns of a stretch go to its lower part. It goes by the stretch's length alone, so a stretch need
    # not know at which column it begins.
    def lower_part(self, many):
        if len(self.splits) == 0:
            return many // 2
        number = self.splits[self.taken % len(self.splits)]
        self.taken = self.taken + 1
        return 1 + number % (many - 1)


def joined(sheet, high, low):
    through = sheet.add(("and", high[1], low[0]))
    make = sheet.add(("or", high[0], through))
    return (make, sheet.add(("and", high[1], low[1])))


def prefixes(sheet, pairs, splits):
    return joined_stretch(sheet, pairs, Partings(splits))


def joined_stretch(sheet, pairs, partings):
    if len(pairs) < 2:
        return list(pairs)
    middle = partings.lower_part(len(pairs))
    # The lower part takes its numbers ahead of the upper one.
    lower = joined_stretch(sheet, pairs[:middle], partings)
    upper = joined_stretch(sheet, pairs[middle:], partings)
    return lower + [joined(sheet, pair, lower[-1]) for pair in upper]


def summed(sheet, heap, splits):
    heights = heap.heights()
    if max(heights, default=0) > 2:
        raise TooMany("a column has three dots or more")
    # It stands for the dots that a column lacks.
    nought = sheet.add(("fix", 0))
    pairs = []
    for k in range(len(heights)):
        pairs.append(column_pair(sheet, heap.column(k) + [nought, nought]))
    carries = [nought] + [pair[0] for pair in prefixes(sheet, pairs, splits)]
    return [sheet.add(("xor", pair[1], carry)) for pair, carry in zip(pairs, carries)]


# Where both dots are 1 a carry is made whatever comes in, so the column's odd one can tell whether it passes one.
def column_pair(sheet, dots):
    make = sheet.add(("and", dots[0], dots[1]))
    return (make, sheet.add(("xor", dots[0], dots[1])))
