"""The calls on one object, and the function that answers a list of them."""

from shortproofs.faults import Fault
from shortproofs.reading import read_text
from shortproofs.shortening import shortened
from shortproofs.texts import first_with_instance, needed_rows, one_form, target_steps

LOAD = 0
SHOWN = 1
PRUNE = 2
GENERAL = 3
SHORTEN = 4


class UnknownCall(Exception):
    """What should be a call's number is none."""


class Holder:
    """The object: it holds a text, or none. Each call answers a list: its number, and behind it what's told."""

    def __init__(self):
        self.text = None

    def load(self, told):
        try:
            text = read_text(told)
        except Fault as fault:
            return [0, fault.code, fault.place]
        self.text = text
        return [1, text.axiom_count(), text.row_count(), len(text.goals)]

    def shown(self):
        form = one_form(self.text)
        return [len(form)] + form

    def prune(self, items):
        if not all([self.text.has_item(item) for item in items]):
            return [-2]
        rows = needed_rows(self.text, items)
        return [len(rows)] + rows

    def general(self, item):
        if not self.text.has_item(item):
            return [-2]
        formula = self.text.formulas[item]
        if formula is None:
            return [-5]
        return [first_with_instance(self.text, formula), self.text.formulas.count(formula)]

    def shorten(self):
        short = shortened(self.text)
        answer = [short.row_count(), self.text.row_count(), target_steps(self.text), target_steps(short)]
        for source in short.sources:
            if source is not None:
                answer.extend(source)
        return answer


def parted(calls):
    """The calls one by one, each as its number and its argument (None if it has none)."""
    each = []
    at = 0
    while at < len(calls):
        number = calls[at]
        if number in (LOAD, PRUNE):
            begin = at + 2
            at = begin + calls[at + 1]
            each.append((number, calls[begin:at]))
        elif number == GENERAL:
            each.append((number, calls[at + 1]))
            at = at + 2
        elif number in (SHOWN, SHORTEN):
            each.append((number, None))
            at = at + 1
        else:
            raise UnknownCall(number)
    return each


def answer_one(holder, number, argument):
    """The answer to one call, or its refusal."""
    if number == LOAD:
        return holder.load(argument)
    if holder.text is None:
        return [-1]
    if number == SHOWN:
        return holder.shown()
    if number == PRUNE:
        return holder.prune(argument)
    if number == GENERAL:
        return holder.general(argument)
    return holder.shorten()


def answers(calls):
    """Answers the calls on one new object: for each, how many numbers are answered, and these."""
    holder = Holder()
    told = []
    for call in parted(calls):
        answer = answer_one(holder, call[0], call[1])
        told.append(len(answer))
        told.extend(answer)
    return told
