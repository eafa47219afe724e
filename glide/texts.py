"""Numbers, fractions and points as texts."""

from glide.errors import NoText
from glide.portions import divisor

FIGURES = "0123456789"


def is_number(text):
    figures = text[1:] if text.startswith("-") else text
    if not 1 <= len(figures) <= 60 or not all([sign in FIGURES for sign in figures]):
        return False
    return text == "0" or figures[0] != "0"


def pieces(text, sign):
    if not isinstance(text, str):
        raise NoText("no text")
    return text.split(sign)


def read_number(text):
    if not isinstance(text, str) or not is_number(text):
        raise NoText("no whole number")
    return int(text)


def read_portion(text):
    numbers = [read_number(piece) for piece in pieces(text, "/")]
    if len(numbers) == 1:
        return (numbers[0], 1)
    if len(numbers) != 2 or numbers[1] < 2 or divisor(numbers[0], numbers[1]) != 1:
        raise NoText("no fraction in lowest terms")
    return (numbers[0], numbers[1])


def read_point(text):
    numbers = [read_number(piece) for piece in pieces(text, ",")]
    if len(numbers) != 2:
        raise NoText("no point")
    return (numbers[0], numbers[1])


def read_points(text):
    return [read_point(piece) for piece in pieces(text, ";")]


def show_portion(one):
    top = one[0]
    bottom = one[1]
    if bottom == 1:
        return str(top)
    return f"{top}/{bottom}"
