"""The calls on one object, and the function that answers a list of them."""

from shortproofs.faults import Fault
from shortproofs.places import NeededRows, first_order, least_peaks, peak_of
from shortproofs.reading import read_text
from shortproofs.shortening import shortened
from shortproofs.texts import first_with_instance, needed_rows, one_form, target_steps, targets

LOAD = 0
SHOWN = 1
PRUNE = 2
GENERAL = 3
SHORTEN = 4
SHORT = 5
ORDER = 6
LEAST = 7

# By the calls' numbers: how many whole numbers each call has, and how many lists behind them.
SHAPES = ((0, 1), (0, 0), (0, 1), (1, 0), (0, 0), (0, 0), (0, 2), (0, 1), (0, 0))

MOST_ROWS_IN_ORDER = 8


def form_told(text):
    form = one_form(text)
    return [len(form)] + form


class Holder:
    """The object: it holds a text, or none. Each call answers a list: its number, and behind it what's told."""

    def __init__(self):
        self.text = None

    def load(self, told):
        try:
            text = read_text(told)
        except Fault as fault:
            return [0, fault.code, fault.place]
        self.text = text
        return [1, text.axiom_count(), text.row_count(), len(text.goals)]

    def shown(self):
        return form_told(self.text)

    def prune(self, items):
        if not self.text.has_items(items):
            return [-2]
        rows = needed_rows(self.text, items)
        return [len(rows)] + rows

    def general(self, item):
        if not self.text.has_item(item):
            return [-2]
        formula = self.text.formulas[item]
        if formula is None:
            return [-5]
        return [first_with_instance(self.text, formula), self.text.formulas.count(formula)]

    def shorten(self):
        short = shortened(self.text)
        answer = [short.row_count(), self.text.row_count(), target_steps(self.text), target_steps(short)]
        for source in short.sources:
            if source is not None:
                answer.extend(source)
        return answer

    def short(self):
        return form_told(shortened(self.text))

    def order(self, wished, order):
        if not self.text.has_items(wished) or not self.text.has_items(order):
            return [-2]
        peak = peak_of(NeededRows(self.text, wished), order)
        if peak is None:
            return [0]
        return [1, peak]

    def least(self, wished):
        if not self.text.has_items(wished):
            return [-2]
        needed = NeededRows(self.text, wished)
        if len(needed.rows) > MOST_ROWS_IN_ORDER:
            return [-7]
        peaks = least_peaks(needed)
        return [peaks[0], len(needed.rows)] + first_order(needed, peaks)

    def totals(self):
        found = targets(self.text)
        return [len(found), len(needed_rows(self.text, found)), target_steps(self.text)]


def parted(calls):
    """The calls one by one, each as its number and its arguments: whole numbers and lists."""
    each = []
    at = 0
    while at < len(calls):
        number = calls[at]
        shape = SHAPES[number]
        begin = at + 1
        at = begin + shape[0]
        arguments = calls[begin:at]
        while len(arguments) < shape[0] + shape[1]:
            begin = at + 1
            at = begin + calls[at]
            arguments.append(calls[begin:at])
        each.append((number, arguments))
    return each


def answer_one(holder, number, arguments):
    """The answer to one call, or its refusal."""
    if number == LOAD:
        return holder.load(arguments[0])
    if holder.text is None:
        return [-1]
    if number == SHOWN:
        return holder.shown()
    if number == PRUNE:
        return holder.prune(arguments[0])
    if number == GENERAL:
        return holder.general(arguments[0])
    if number == SHORTEN:
        return holder.shorten()
    if number == SHORT:
        return holder.short()
    if number == ORDER:
        return holder.order(arguments[0], arguments[1])
    if number == LEAST:
        return holder.least(arguments[0])
    return holder.totals()


def answers(calls):
    """Answers the calls on one new object: for each, how many numbers are answered, and these."""
    holder = Holder()
    told = []
    for call in parted(calls):
        answer = answer_one(holder, call[0], call[1])
        told.append(len(answer))
        told.extend(answer)
    return told
