"""Webs written as texts, and read from them (point 14)."""

from momentties.errors import BadText
from momentties.webs import Web

FIGURES = "0123456789"
MOST_FIGURES = 3


def span_rows(word, spans):
    return [f"{word} {one} {other} {least} {most}" for one, other, least, most in spans]


def written(web):
    many = web.many
    last = web.last
    rows = [f"moments {many} last {last}"]
    return "\n".join(rows + span_rows("tie", web.ties()) + span_rows("fall", web.falls()))


def is_number(word):
    figures = word[1:] if word.startswith("-") else word
    if not 1 <= len(figures) <= MOST_FIGURES:
        return False
    # `isdigit` and `int` would take other scripts' figures, too.
    if not all([sign in FIGURES for sign in figures]):
        return False
    return word == "0" or figures[0] != "0"


def numbers_of(words, at):
    if not all([is_number(word) for word in words]):
        raise BadText(at)
    return tuple([int(word) for word in words])


def read_size(row):
    words = row.split(" ")
    if len(words) != 4 or words[0] != "moments" or words[2] != "last":
        raise BadText(0)
    return numbers_of([words[1], words[3]], 0)


def read_span(row, at):
    words = row.split(" ")
    if len(words) != 5:
        raise BadText(at)
    return numbers_of(words[1:], at)


def read(text):
    rows = text.split("\n")
    size = read_size(rows[0])
    ties = []
    falls = []
    for at in range(1, len(rows)):
        if rows[at].startswith("tie ") and len(falls) == 0:
            ties.append(read_span(rows[at], at))
        elif rows[at].startswith("fall "):
            falls.append(read_span(rows[at], at))
        else:
            raise BadText(at)
    return Web(size[0], size[1], ties, falls)
