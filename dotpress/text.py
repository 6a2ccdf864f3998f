"""Formulas written as texts, and texts read as formulas."""

from dotpress.errors import NoFormula
from dotpress.formulas import built_up

SUM_SIGNS = {"plus": "+", "less": "-"}

SUM_KINDS = {"+": "plus", "-": "less"}

SUMS = ("plus", "less", "turned")

SUMS_AND_PRODUCTS = ("plus", "less", "turned", "times")

MOST_LETTERS = 6

GREATEST_NUMBER = 1_000_000_000_000


def shown(formula):
    return built_up(formula, shown_part)


def shown_part(part, own):
    kind = part[0]
    if kind == "name":
        return part[1]
    if kind == "number":
        return str(part[1])
    if kind == "turned":
        return "-" + bracketed(part[1], own[0], SUMS_AND_PRODUCTS)
    if kind == "times":
        return bracketed(part[1], own[0], SUMS) + "*" + bracketed(part[2], own[1], SUMS_AND_PRODUCTS)
    return own[0] + SUM_SIGNS[kind] + bracketed(part[2], own[1], SUMS)


def bracketed(part, text, kinds):
    return "(" + text + ")" if part[0] in kinds else text


# What is read so far of a sum: of the whole text, or between brackets that are not closed yet.
class OpenSum:
    def __init__(self):
        self.total = None
        self.kind = None
        self.product = None
        self.turns = 0

    # A sign - of a turned piece stands ahead of the piece, so it is kept until the piece is there.
    def turn(self):
        self.turns = self.turns + 1

    def take_piece(self, piece):
        for sign in range(self.turns):
            piece = ("turned", piece)
        self.turns = 0
        self.product = piece if self.product is None else ("times", self.product, piece)

    def end_product(self, kind):
        self.total = self.whole()
        self.kind = kind
        self.product = None

    def whole(self):
        return self.product if self.total is None else (self.kind, self.total, self.product)


# Sums within brackets are kept in a list, not in calls within calls, so it does not matter how deep they lie.
def read(text):
    sums = [OpenSum()]
    awaited = True
    for word in words_of(text):
        awaited = begin_piece(sums, word) if awaited else end_piece(sums, word)
    if awaited or len(sums) > 1:
        raise NoFormula("the text ends within a sum")
    return sums[0].whole()


# Tells whether a piece is still awaited, as end_piece does.
def begin_piece(sums, word):
    if word == "-":
        sums[-1].turn()
        return True
    if word == "(":
        sums.append(OpenSum())
        return True
    sums[-1].take_piece(leaf_of(word))
    return False


def end_piece(sums, word):
    if word == "*":
        return True
    if word in SUM_KINDS:
        sums[-1].end_product(SUM_KINDS[word])
        return True
    if word == ")" and len(sums) > 1:
        closed = sums.pop()
        sums[-1].take_piece(closed.whole())
        return False
    raise NoFormula(f"{word!r} stands behind a piece")


def leaf_of(word):
    if is_name(word):
        return ("name", word)
    # The length goes ahead of the worth, as figures without end are not to be made into a number.
    if is_written_number(word, len(str(GREATEST_NUMBER))) and int(word) <= GREATEST_NUMBER:
        return ("number", int(word))
    raise NoFormula(f"{word!r} stands where a piece is awaited")


def is_name(word):
    return 0 < len(word) <= MOST_LETTERS and all([is_letter(sign) for sign in word])


def is_written_number(word, most_figures):
    if not 0 < len(word) <= most_figures or not all([is_figure(sign) for sign in word]):
        return False
    return word == "0" or word[0] != "0"


# Letters that follow one another are one word, and so are figures; each other sign is a word by itself.
def words_of(text):
    words = []
    place = 0
    while place < len(text):
        end = place + 1
        while end < len(text) and go_together(text[place], text[end]):
            end = end + 1
        words.append(text[place:end])
        place = end
    return words


def go_together(first, second):
    return (is_letter(first) and is_letter(second)) or (is_figure(first) and is_figure(second))


def is_letter(sign):
    return "a" <= sign <= "z"


def is_figure(sign):
    return "0" <= sign <= "9"
