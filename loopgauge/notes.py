"""Notes: loops written as texts, and read again."""

from loopgauge.errors import BadText
from loopgauge.loops import is_loop, need_loop

FIGURES = "0123456789"
MOST_FIGURES = 4


def row_line(word, row):
    """The line of a row."""
    return " ".join([word] + [str(number) for number in row])


def way_lines(way):
    """The lines of a way."""
    asks, gives = way
    return ["way"] + [row_line("ask", row) for row in asks] + [row_line("set", row) for row in gives]


def number_of(word):
    """The whole number that a word is, None of one that is none of a loop."""
    figures = word.removeprefix("-")
    if not 1 <= len(figures) <= MOST_FIGURES or not all(sign in FIGURES for sign in figures):
        return None
    return int(word)


def guessed(text):
    """What the lines of a text make, a loop or not; None where one of them belongs nowhere."""
    lines = text.split("\n")
    many = number_of(lines[0].removeprefix("names "))
    ways = []
    for line in lines[1:]:
        words = line.split(" ")
        word, row = words[0], [number_of(number) for number in words[1:]]
        if word == "way":
            ways.append(([], []))
        elif word == "ask" and ways:
            ways[-1][0].append(row)
        elif word == "set" and ways:
            ways[-1][1].append(row)
        else:
            return None
    return (many, ways)


def written(loop):
    """A loop as a text."""
    need_loop(loop)
    many, ways = loop
    lines = [f"names {many}"]
    for way in ways:
        lines.extend(way_lines(way))
    return "\n".join(lines)


def read(text):
    """The loop of a text, in lists of its own."""
    if type(text) is not str:
        raise BadText("this is no text")
    loop = guessed(text)
    # A loop has one text only: so all that a guess lets through, such as
    # noughts ahead or an ask behind a set, is refused here.
    if not is_loop(loop) or written(loop) != text:
        raise BadText("this is no text of a loop")
    return loop
