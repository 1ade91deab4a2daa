"""Texts of NESTS, and where reading refuses them, by the words of the document."""

import re

WHOLE = re.compile(r"-?[1-9][0-9]{0,30}|0")
LETTERS = re.compile(r"[a-z]{1,12}")


def bad(line, word):
    return "BadText", {"line": line, "word": word}


def is_nest(value):
    """Whether it is a NEST, but for how many words its text has."""
    if type(value) is tuple:
        return deep_in(value) <= 30 and all(is_nest(thing) for thing in value)
    if type(value) is int:
        return abs(value) < 10 ** 31
    return value is None or type(value) is str and bool(LETTERS.fullmatch(value))


def deep_in(value):
    return 1 + max(map(deep_in, value), default=0) if type(value) is tuple else 0


def text_tried(nest):
    if isinstance(nest, tuple):
        return " ".join(["("] + [text_tried(thing) for thing in nest] + [")"])
    return "-" if nest is None else str(nest)


def fault_tried(words):
    """The number of the first word of a line that cannot stand there as one of a NEST, None if all is well."""
    still = 0
    for spot, word in enumerate(words):
        if spot and not still:
            return spot
        if spot == 2000:
            return spot
        if word == "(" and still < 30:
            still += 1
        elif word == ")" and still:
            still -= 1
        elif word != "-" and not WHOLE.fullmatch(word) and not LETTERS.fullmatch(word):
            return spot
    return len(words) if still else None
