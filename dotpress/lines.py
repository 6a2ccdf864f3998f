"""The lines that a desk is told, read into what they say."""

from dotpress.errors import NoLine
from dotpress.text import is_name, is_written_number

MOST_FIGURES = 20

MOST_NUMBERS = 100

GREATEST_WIDTH = 24


# Told is a tuple of the line's first word and of what the others say: ("width", NAME, NUMBER), ("order", LIST) or for
# rounds ("order", None), ("splits", LIST), ("make", TEXT), ("ask", DICT), ("span", TEXT), ("show", TEXT).
def read_line(line):
    # Blanks that are one too many leave empty words, which are neither names nor numbers nor formulas.
    words = line.split(" ")
    kind = words[0]
    others = words[1:]
    if kind == "width" and len(others) == 2:
        return ("width", name_of(others[0]), width_of(others[1]))
    if kind == "order" and others == ["rounds"]:
        return ("order", None)
    if kind in ("order", "splits") and len(others) <= MOST_NUMBERS:
        return (kind, [number_from_nought(word) for word in others])
    if kind in ("make", "span", "show") and len(others) == 1 and others[0] != "":
        return (kind, others[0])
    if kind == "ask":
        return ("ask", numbers_by_names(others))
    raise NoLine(f"{line!r} is no line that a desk is told")


def name_of(word):
    if not is_name(word):
        raise NoLine(f"{word!r} is no name")
    return word


def whole_number_of(word):
    below = word.startswith("-")
    figures = word[1:] if below else word
    if not is_written_number(figures, MOST_FIGURES) or word == "-0":
        raise NoLine(f"{word!r} is no number")
    return -int(figures) if below else int(figures)


def width_of(word):
    width = whole_number_of(word)
    if width == 0 or abs(width) > GREATEST_WIDTH:
        raise NoLine(f"{width} is no width")
    return width


def number_from_nought(word):
    number = whole_number_of(word)
    if number < 0:
        raise NoLine(f"{number} is below nought")
    return number


def numbers_by_names(words):
    numbers = {}
    for word in words:
        pieces = word.partition("=")
        name = name_of(pieces[0])
        if name in numbers:
            raise NoLine(f"{name} is there twice")
        numbers[name] = whole_number_of(pieces[2])
    return numbers
