"""Texts of schemes, and the way back."""

from stackedputs.errors import InvalidText
from stackedputs.schemes import is_scheme

# What stands in a text for -1, 0, 1, ..: all numbers that a scheme may have.
_SIGNS = ("-", "0", "1", "2", "3", "4", "5")


def text_of_scheme(scheme):
    """Returns the text of the scheme."""
    v, effects, written, rules = scheme
    lines = [f"values {v}"]
    for operand, states in enumerate(effects):
        mark = " written" if operand in written else ""
        lines.append(f"{operand}{mark}:" + "".join([" " + _sign(state) for state in states]))
    for a, b, c in rules:
        lines.append(f"{a} {b} -> {_sign(c)}")
    return "\n".join(lines)


def read_scheme(text):
    """Returns the scheme that has just this text. Raises InvalidText(text) if there is none."""
    if not isinstance(text, str):
        raise InvalidText(text)
    scheme = _scheme_like(text)
    # The text was looked at loosely: whether it is right shows only where its scheme is written down again.
    if not is_scheme(scheme) or text_of_scheme(scheme) != text:
        raise InvalidText(text)
    return scheme


def _sign(number):
    return _SIGNS[number + 1]


def _number(word):
    """Returns the number for which the word stands, or None for each other word."""
    return _SIGNS.index(word) - 1 if word in _SIGNS else None


def _scheme_like(text):
    """Returns what would be the scheme, if this is the text of one."""
    lines = text.split("\n")
    effects, written, rules = [], [], []
    for line in lines[1:]:
        head, colon, tail = line.partition(":")
        words = line.split(" ")
        if colon == "":
            rules.append(tuple([_number(word) for word in words if word != "->"]))
        else:
            if head.endswith(" written"):
                written.append(len(effects))
            effects.append(tuple([_number(word) for word in tail.split(" ")[1:]]))
    v = _number(lines[0].split(" ")[-1])
    return (v, tuple(effects), tuple(written), tuple(rules))
