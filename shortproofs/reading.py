"""Reads a text, up to its first fault."""

from shortproofs.faults import NAME_TAKEN, NAME_UNKNOWN, NOT_ALLOWED, ONE_TOO_MANY, TEXT_TOO_LONG, TOO_DEEP
from shortproofs.faults import TOO_MANY_SIGNS, Fault
from shortproofs.formulas import DENIES, FIRST_UNKNOWN, IMPLIES
from shortproofs.texts import Text
from shortproofs.tokens import END, is_name, tokens_of

MOST_BYTES = 4096
MOST_AXIOMS = 6
MOST_ROWS = 24
MOST_GOALS = 4
MOST_SIGNS = 40
MOST_WITHIN = 39


class Reader:
    """The tokens of a text, and which of them is read next."""

    def __init__(self, tokens):
        self.tokens = tokens
        self.at = 0

    def word(self):
        return self.tokens[self.at][0]

    def here(self):
        return self.tokens[self.at][1]

    def take(self, word):
        if self.word() != word:
            raise Fault(NOT_ALLOWED, self.here())
        self.at = self.at + 1

    def take_name(self):
        name = self.word()
        if not is_name(name):
            raise Fault(NOT_ALLOWED, self.here())
        self.at = self.at + 1
        return name

    def take_nesting(self, word, within):
        """Takes a ~, ( or > that stands within so many others."""
        if within > MOST_WITHIN:
            raise Fault(TOO_DEEP, self.here())
        self.take(word)


def read_part(reader, unknowns, within):
    """The signs of a part; unknowns holds those of the formula by their names, within is how deep the part stands."""
    if reader.word() == "~":
        reader.take_nesting("~", within)
        return [DENIES] + read_part(reader, unknowns, within + 1)
    if reader.word() == "(":
        reader.take_nesting("(", within)
        inner = read_signs(reader, unknowns, within + 1)
        reader.take(")")
        return inner
    name = reader.take_name()
    return [unknowns.setdefault(name, FIRST_UNKNOWN + len(unknowns))]


def read_signs(reader, unknowns, within):
    """The signs of a formula, or of what stands within its brackets or behind its >."""
    first = read_part(reader, unknowns, within)
    if reader.word() != ">":
        return first
    reader.take_nesting(">", within)
    return [IMPLIES] + first + read_signs(reader, unknowns, within + 1)


def read_formula(reader):
    """A formula, and the ; behind it."""
    place = reader.here()
    signs = read_signs(reader, {}, 0)
    reader.take(";")
    if len(signs) > MOST_SIGNS:
        raise Fault(TOO_MANY_SIGNS, place)
    return tuple(signs)


def read_new_name(reader, text):
    place = reader.here()
    name = reader.take_name()
    if name in text.names:
        raise Fault(NAME_TAKEN, place)
    return name


def read_item(reader, text):
    """The number of an item, by its name."""
    place = reader.here()
    name = reader.take_name()
    if name not in text.names:
        raise Fault(NAME_UNKNOWN, place)
    return text.names.index(name)


def begins(reader, word, told, most):
    """Whether an axiom, a row or a goal begins here; so many of its kind have been told. Takes the word."""
    if reader.word() != word:
        return False
    if told == most:
        raise Fault(ONE_TOO_MANY, reader.here())
    reader.take(word)
    return True


def read_axioms(reader, text):
    while begins(reader, "axiom", text.axiom_count(), MOST_AXIOMS):
        name = read_new_name(reader, text)
        reader.take(":")
        text.add_item(name, None, read_formula(reader))


def read_rows(reader, text):
    while begins(reader, "row", text.row_count(), MOST_ROWS):
        name = read_new_name(reader, text)
        reader.take(":")
        first = read_item(reader, text)
        reader.take(",")
        source = (first, read_item(reader, text))
        reader.take(";")
        text.add_item(name, source, text.detached_from(source))


def read_goals(reader, text):
    while begins(reader, "goal", len(text.goals), MOST_GOALS):
        text.goals.append(read_formula(reader))


def read_text(told):
    """The text that a list of bytes tells; a Fault if it's not right."""
    if len(told) > MOST_BYTES:
        raise Fault(TEXT_TOO_LONG, MOST_BYTES)
    reader = Reader(tokens_of(told))
    text = Text()
    if reader.word() != "axiom":
        raise Fault(NOT_ALLOWED, reader.here())
    read_axioms(reader, text)
    read_rows(reader, text)
    read_goals(reader, text)
    reader.take(END)
    return text
