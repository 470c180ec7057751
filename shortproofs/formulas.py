"""Formulas.

A formula is a tuple of signs: > and ~ stand ahead of their parts, and an unknown is FIRST_UNKNOWN and its number.
Unknowns are numbered as they come, so formulas that are alike are equal tuples, and a formula's length is how many
signs it has.
"""

IMPLIES = 0
DENIES = 1
FIRST_UNKNOWN = 2


def part_end(formula, place):
    """The place behind the part of the formula that begins at the place."""
    missing = 1
    while missing > 0:
        if formula[place] == IMPLIES:
            missing = missing + 1
        elif formula[place] >= FIRST_UNKNOWN:
            missing = missing - 1
        place = place + 1
    return place


def is_instance(formula, general):
    """Whether the formula is the general one with some formula put for each unknown."""
    put = {}
    place = 0
    for sign in general:
        if sign < FIRST_UNKNOWN:
            if formula[place] != sign:
                return False
            place = place + 1
        else:
            end = part_end(formula, place)
            part = formula[place:end]
            if put.setdefault(sign, part) != part:
                return False
            place = end
    return True


def bracketed(part):
    """A part's form, where it needs brackets if it's an implication."""
    form = part[0]
    if part[1]:
        return f"( {form} )"
    return form


def formula_form(formula):
    """The formula's one form, as a text."""
    # Walked from its end, a sign's parts are there before it. Each is its form, and whether it's an implication.
    parts = []
    for sign in reversed(formula):
        if sign == IMPLIES:
            first = bracketed(parts.pop())
            second = parts.pop()[0]
            parts.append((f"{first} > {second}", True))
        elif sign == DENIES:
            denied = bracketed(parts.pop())
            parts.append((f"~ {denied}", False))
        else:
            number = sign - FIRST_UNKNOWN
            parts.append((f"x{number}", False))
    return parts[0][0]
