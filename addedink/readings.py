"""Styles and desks that are read from their texts.

What is read must have the very text of which it was read. So the functions that read the parts of a text
need not look at its signs one by one: a wrong one among them gives a style or a desk with another text.
"""

from addedink.desks import Desk
from addedink.errors import InkError, Unreadable
from addedink.styles import FIGURES, Style
from addedink.texts import show_desk, show_style

DIGITS = "0123456789"
MOST_DIGITS = 7


def read_style(text):
    """Return the style with a text."""
    try:
        style = style_in(text)
    except InkError:
        raise Unreadable(text) from None
    if show_style(style) != text:
        raise Unreadable(text)
    return style


def read_desk(text):
    """Return the desk with a text."""
    try:
        desk = desk_in(text)
    except InkError:
        raise Unreadable(text) from None
    if show_desk(desk) != text:
        raise Unreadable(text)
    return desk


def integer_in(word):
    """Return the integer that a word of a text may be."""
    digits = word.removeprefix("-")
    if not 0 < len(digits) <= MOST_DIGITS or not all([digit in DIGITS for digit in digits]):
        raise Unreadable(word)
    return int(word)


def limit_in(word):
    """Return the limit that a word of a text may be; None is no limit."""
    if word == "any":
        return None
    return integer_in(word)


def style_in(text):
    """Return the style that a text may be."""
    shapes = [[integer_in(word) for word in shape.split(" ")] for shape in text.split("; ")]
    if len(shapes) != len(FIGURES):
        raise Unreadable(text)
    return Style(shapes)


def desk_in(text):
    """Return the desk that a text may be."""
    style, behind = style_ahead(text)
    checks = []
    while not behind.startswith(" free "):
        check, behind = check_ahead(behind)
        checks.append(check)
    words = behind.split(" ")
    if not 5 <= len(words) <= 6:
        raise Unreadable(text)
    return Desk(style, checks, free=limit_in(words[2]), most=limit_in(words[4]), raised=len(words) == 6)


def style_ahead(text):
    """Return the style in brackets with which a text may begin, and the text behind it."""
    inside, _, behind = text[1:].partition(")")
    return (style_in(inside), behind)


def check_ahead(text):
    """Return the check with which a text, from a space on, may begin, and the text behind it."""
    if text.startswith(" rest "):
        inside, _, behind = text[6:].partition(";")
        modulus, _, weights = inside.partition(":")
        return (("rest", integer_in(modulus), [integer_in(word) for word in weights.split(" ")[1:]]), behind)
    if text.startswith(" copy "):
        style, behind = style_ahead(text[6:])
        return (("copy", style), behind)
    if text.startswith(" count"):
        return (("count",), text[6:])
    raise Unreadable(text)
