"""Texts that are right: their items and goals, and what can be asked of them."""

from shortproofs.detaching import detached
from shortproofs.formulas import formula_form, is_instance


class Text:
    """Items by their numbers: names, sources (None for an axiom) and formulas (None for a row without one); goals."""

    def __init__(self):
        self.names = []
        self.sources = []
        self.formulas = []
        self.goals = []

    def add_item(self, name, source, formula):
        self.names.append(name)
        self.sources.append(source)
        self.formulas.append(formula)

    def has_item(self, number):
        return 0 <= number < len(self.names)

    def has_items(self, numbers):
        return all([self.has_item(number) for number in numbers])

    def axiom_count(self):
        return self.sources.count(None)

    def row_count(self):
        return len(self.sources) - self.axiom_count()

    def detached_from(self, source):
        """What is detached from two items; None if nothing is, or one of them has no formula."""
        first = self.formulas[source[0]]
        second = self.formulas[source[1]]
        if first is None or second is None:
            return None
        return detached(first, second)


def first_with_instance(text, formula):
    """The first item of which the formula is an instance; None if there's none."""
    for number, general in enumerate(text.formulas):
        if general is not None and is_instance(formula, general):
            return number
    return None


def targets(text):
    """The targets of the goals that have one."""
    found = [first_with_instance(text, goal) for goal in text.goals]
    return [number for number in found if number is not None]


def needed_rows(text, items):
    """The rows that the items need, in order."""
    needed = {}
    waiting = list(items)
    while len(waiting) > 0:
        item = waiting.pop()
        if text.sources[item] is not None and item not in needed:
            needed[item] = True
            waiting.extend(text.sources[item])
    return sorted(needed.keys())


def target_steps(text):
    """How many steps as trees the targets have together."""
    steps = []
    for source in text.sources:
        if source is None:
            steps.append(0)
        else:
            steps.append(steps[source[0]] + steps[source[1]] + 1)
    return sum([steps[target] for target in targets(text)])


def item_form(text, number):
    """The line of the one form that tells an item."""
    name = text.names[number]
    source = text.sources[number]
    if source is None:
        formula = formula_form(text.formulas[number])
        return f"axiom {name} : {formula} ;\n"
    first = text.names[source[0]]
    second = text.names[source[1]]
    return f"row {name} : {first}, {second} ;\n"


def goal_form(goal):
    formula = formula_form(goal)
    return f"goal {formula} ;\n"


def one_form(text):
    """The text's one form, as a list of bytes."""
    lines = [item_form(text, number) for number in range(len(text.names))]
    lines.extend([goal_form(goal) for goal in text.goals])
    return [ord(sign) for sign in "".join(lines)]
