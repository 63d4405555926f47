"""Sieves as texts: a line for each bar."""

from restlots.checks import GREATEST_MODULUS, MOST_RESTS, integer_within
from restlots.errors import BadLine
from restlots.sieves import MOST_BARS, Sieve

BAR = "bar"
# The greatest modulus has as many.
MOST_DIGITS = 7
# The word of a line, counted from 1, that is its first rest.
FIRST_REST = 3


def line_of(bar):
    """Return the line for a bar."""
    modulus, lot = bar
    return " ".join([BAR, str(modulus)] + [str(rest) for rest in lot])


def write(sieve):
    """Return the text of a sieve: its lines, joined by newlines."""
    return "\n".join([line_of(bar) for bar in sieve.bars])


def words_of(line):
    """Return the list of the words of a line; nothing but spaces stands between words."""
    return [word for word in line.split(" ") if word != ""]


def integer_of(word):
    """Return the integer that Python writes as this word, None if there is none, or it has more digits than moduli."""
    # The length comes first, as Python does not read integers of very many digits.
    if len(word) > MOST_DIGITS or not word.isascii() or not word.isdigit() or str(int(word)) != word:
        return None
    return int(word)


def wrong_word(words):
    """Return which word of a line, counted from 1, is the first one that cannot stand, None if the line can."""
    if words[:1] != [BAR]:
        return 1
    if len(words) == 1:
        return 2
    modulus = integer_of(words[1])
    if not integer_within(modulus, 1, GREATEST_MODULUS):
        return 2
    least = 0
    for place, word in enumerate(words[2:], FIRST_REST):
        rest = integer_of(word)
        if place == FIRST_REST + MOST_RESTS or not integer_within(rest, least, modulus - 1):
            return place
        least = rest + 1
    return None


def bar_of(words):
    """Return the bar of a line that can stand."""
    return (int(words[1]), tuple([int(word) for word in words[2:]]))


def read(text):
    """Return the sieve of a text; BadLine tells the first line that cannot stand, and its first word that cannot."""
    if text == "":
        return Sieve(())
    bars = []
    for number, line in enumerate(text.split("\n"), 1):
        words = words_of(line)
        wrong = wrong_word(words)
        if number > MOST_BARS:
            wrong = 1
        if wrong is not None:
            raise BadLine(number, wrong)
        bars.append(bar_of(words))
    return Sieve(tuple(bars))
