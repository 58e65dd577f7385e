"""Webs written as texts, and read back."""

from kindleweb.errors import NoText
from kindleweb.webs import MOST_HEARTHS, MOST_WANTED, rises

FIGURES = "0123456789"
MOST_FIGURES = 60
NONE_AT_ALL = "."


def web_text(web):
    return numbers_row(web[0]) + "\n" + links_row(web[1])


def numbers_row(numbers):
    return row_of([str(number) for number in numbers])


def links_row(links):
    return row_of([f"{one}-{other}" for one, other in links])


def row_of(words):
    if not words:
        return NONE_AT_ALL
    return " ".join(words)


def read_web(text):
    rows = text.split("\n")
    if len(rows) != 2:
        raise NoText("a web is written in two rows")
    wants = [read_number(word, MOST_WANTED) for word in words_of(rows[0])]
    if len(wants) > MOST_HEARTHS:
        raise NoText("a web has at most 40 hearths")
    links = [read_link(word, len(wants)) for word in words_of(rows[1])]
    if not rises(links):
        raise NoText("the links do not rise")
    return (tuple(wants), tuple(links))


def words_of(row):
    if row == NONE_AT_ALL:
        return []
    return row.split(" ")


def read_number(word, most):
    number = read_figures(word)
    if number > most:
        raise NoText("a number is too great")
    return number


def read_figures(word):
    if not is_number(word):
        raise NoText("a number is not written as one")
    return int(word)


def is_number(word):
    # Python turns no text of some thousand figures into a number, so the length is asked first.
    if len(word) < 1 or len(word) > MOST_FIGURES:
        return False
    if len(word) > 1 and word[0] == "0":
        return False
    return all([sign in FIGURES for sign in word])


def read_link(word, many):
    parts = word.split("-")
    if len(parts) != 2:
        raise NoText("a link is written as two hearths")
    one = read_number(parts[0], many - 1)
    other = read_number(parts[1], many - 1)
    if one >= other:
        raise NoText("the lesser hearth of a link stands first")
    return (one, other)
