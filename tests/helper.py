"""What the tests share: calls written as lists of numbers, and the document's words done a second time, plainly.

The second way keeps formulas as trees: ("x", n), (">", F, G), ("~", F). It's slow and knows nothing of the program.
"""

import random

from shortproofs.proofs import answers

WORKED = (
    "axiom k : x > y > x ; axiom s : ( x > y > z ) > ( x > y ) > x > z ; row a : s, k ; row i : a, k ; "
    "row c : s, k ; row e : a, a ; row j : c, c ; row b : k, j ; goal p > p ; goal q > p > p ;"
)


def to_bytes(text):
    return list(text.encode("latin-1")) if isinstance(text, str) else list(text)


def load(text):
    told = to_bytes(text)
    return [0, len(told)] + told


def shown():
    return [1]


def prune(*items):
    return [2, len(items)] + list(items)


def general(item):
    return [3, item]


def shorten():
    return [4]


def short():
    return [5]


def order(wished, rows):
    return [6, len(wished)] + list(wished) + [len(rows)] + list(rows)


def least(*wished):
    return [7, len(wished)] + list(wished)


def totals():
    return [8]


def ask(*calls):
    """The answers to these calls on one new object, one list each; the list handed in has to stay as it was."""
    line = [number for call in calls for number in call]
    kept = list(line)
    told = answers(line)
    if line != kept:
        raise AssertionError("the list handed in was changed")
    if type(told) is not list or any(type(number) is not int for number in told):
        raise AssertionError("not a list of whole numbers")
    parts = []
    at = 0
    while at < len(told):
        parts.append(told[at + 1 : at + 1 + told[at]])
        at = at + 1 + told[at]
    if at != len(told) or len(parts) != len(calls):
        raise AssertionError("not as many answers as calls")
    return parts


def ask_last(*calls):
    return ask(*calls)[-1]


def as_form(answer):
    """The text of an answer that is a count of bytes, and they."""
    if answer[0] != len(answer) - 1:
        raise AssertionError("not as many bytes as told")
    return bytes(answer[1:]).decode("ascii")


def form(text):
    """The one form of a right text, as it's shown."""
    return as_form(ask_last(load(text), shown()))


def short_form(text):
    """The shortened text's one form."""
    return as_form(ask_last(load(text), short()))


# Formulas, a second time


def size(tree):
    return 1 + sum(size(part) for part in tree[1:]) if tree[0] != "x" else 1


def unknowns(tree):
    if tree[0] == "x":
        return [tree]
    return [name for part in tree[1:] for name in unknowns(part)]


def put_in(tree, put):
    if tree[0] == "x":
        return put_in(put[tree], put) if tree in put else tree
    return (tree[0],) + tuple(put_in(part, put) for part in tree[1:])


def renumbered(tree):
    order = []
    for name in unknowns(tree):
        if name not in order:
            order.append(name)

    def walk(part):
        if part[0] == "x":
            return ("x", order.index(part))
        return (part[0],) + tuple(walk(inner) for inner in part[1:])

    return walk(tree)


def instance_of(tree, pattern):
    put = {}

    def fits(part, wanted):
        if wanted[0] == "x":
            return put.setdefault(wanted, part) == part
        if part[0] != wanted[0]:
            return False
        return all(fits(inner, other) for inner, other in zip(part[1:], wanted[1:]))

    return fits(tree, pattern)


def unified(first, second):
    """What's put for unknowns so that both become the same, as generally as can be; None if they can't."""
    put = {}

    def seen(part):
        while part in put:
            part = put[part]
        return part

    def within(name, part):
        part = seen(part)
        if part[0] == "x":
            return part == name
        return any(within(name, inner) for inner in part[1:])

    def same(one, other):
        one = seen(one)
        other = seen(other)
        if one == other:
            return True
        if one[0] == "x":
            if within(one, other):
                return False
            put[one] = other
            return True
        if other[0] == "x":
            return same(other, one)
        return one[0] == other[0] and all(same(a, b) for a, b in zip(one[1:], other[1:]))

    return put if same(first, second) else None


def apart(tree):
    if tree[0] == "x":
        return ("x", tree[1] + 1000)
    return (tree[0],) + tuple(apart(part) for part in tree[1:])


def rule(first, second):
    """What's detached, renumbered; None if nothing is."""
    if first is None or second is None or first[0] == "~":
        return None
    if first[0] == "x":
        return ("x", 0)
    put = unified(first[1], apart(second))
    if put is None or size(put_in(first[1], put)) > 1000:
        return None
    result = put_in(first[2], put)
    return None if size(result) > 60 else renumbered(result)


def told(tree, names="x{}"):
    """The formula as a text, with the fewest brackets."""
    if tree[0] == "x":
        return names.format(tree[1])
    if tree[0] == "~":
        inner = told(tree[1], names)
        return f"~ ( {inner} )" if tree[1][0] == ">" else f"~ {inner}"
    first = told(tree[1], names)
    if tree[1][0] == ">":
        first = f"( {first} )"
    return f"{first} > {told(tree[2], names)}"


# Texts, a second time


class Proof:
    """A text: its axioms and goals as trees, its rows as pairs of items; names are for all items."""

    def __init__(self, axioms, rows, goals, names=None):
        self.axioms = list(axioms)
        self.rows = list(rows)
        self.goals = list(goals)
        self.names = [f"n{i}" for i in range(len(axioms) + len(rows))] if names is None else list(names)
        self.formulas = [renumbered(tree) for tree in axioms]
        for first, second in rows:
            self.formulas.append(rule(self.formulas[first], self.formulas[second]))

    def text(self):
        names = self.names
        lines = [f"axiom {names[i]} : {told(renumbered(tree))} ;\n" for i, tree in enumerate(self.axioms)]
        for number, (first, second) in enumerate(self.rows, len(self.axioms)):
            lines.append(f"row {names[number]} : {names[first]}, {names[second]} ;\n")
        lines.extend(f"goal {told(renumbered(goal))} ;\n" for goal in self.goals)
        return "".join(lines)

    def first_with(self, formula):
        for number, pattern in enumerate(self.formulas):
            if pattern is not None and instance_of(formula, pattern):
                return number
        return None

    def targets(self):
        found = [self.first_with(goal) for goal in self.goals]
        return [number for number in found if number is not None]

    def steps(self, item):
        if item < len(self.axioms):
            return 0
        return 1 + sum(self.steps(source) for source in self.rows[item - len(self.axioms)])

    def needed(self, items):
        if not items:
            return []
        found = set()
        for item in items:
            if item >= len(self.axioms):
                found |= {item} | set(self.needed(self.rows[item - len(self.axioms)]))
        return sorted(found)

    def merged(self):
        result = Proof(self.axioms, [], self.goals, self.names[: len(self.axioms)])
        become = list(range(len(self.axioms)))
        for number, (first, second) in enumerate(self.rows, len(self.axioms)):
            pair = (become[first], become[second])
            formula = None if None in pair else rule(result.formulas[pair[0]], result.formulas[pair[1]])
            earlier = None if formula is None else result.first_with(formula)
            if formula is None or earlier is not None:
                become.append(earlier)
            else:
                become.append(len(result.formulas))
                result.rows.append(pair)
                result.formulas.append(formula)
                result.names.append(self.names[number])
        return result, become

    def with_rows_alone(self, rows):
        numbers = {i: i for i in range(len(self.axioms))}
        pairs = []
        for row in rows:
            numbers[row] = len(numbers)
            pairs.append(tuple(numbers[source] for source in self.rows[row - len(self.axioms)]))
        return Proof(self.axioms, pairs, self.goals, [self.names[item] for item in numbers])

    def shortened(self):
        merged = self.merged()[0]
        return merged.with_rows_alone(merged.needed(merged.targets()))

    def target_steps(self):
        return sum(self.steps(target) for target in self.targets())

    def shorten_answer(self):
        short = self.shortened()
        answer = [len(short.rows), len(self.rows), self.target_steps(), short.target_steps()]
        return answer + [source for pair in short.rows for source in pair]

    def general_answer(self, item):
        formula = self.formulas[item]
        if formula is None:
            return [-5]
        return [self.first_with(formula), self.formulas.count(formula)]

    def prune_answer(self, items):
        rows = self.needed(items)
        return [len(rows)] + rows

    def totals_answer(self):
        return [len(self.targets()), len(self.needed(self.targets())), self.target_steps()]

    def sources(self, row):
        """The rows that a row is detached from."""
        return {item for item in self.rows[row - len(self.axioms)] if item >= len(self.axioms)}

    def peak(self, wished, rows):
        """The peak of an order of rows, each behind those that it's detached from; None if it isn't such an order."""
        most = 0
        for at, row in enumerate(rows):
            before = set(rows[:at])
            used = {source for later in rows[at:] for source in self.sources(later)}
            if not self.sources(row) <= before:
                return None
            most = max(most, 1 + len(before & (used | set(wished))))
        return most

    def order_answer(self, wished, rows):
        if sorted(rows) != self.needed(wished) or self.peak(wished, rows) is None:
            return [0]
        return [1, self.peak(wished, rows)]

    def orders(self, rows, before=()):
        """All orders of these rows, each behind those that it's detached from, from the first to the last."""
        if len(before) == len(rows):
            yield list(before)
        for row in sorted(rows):
            if row not in before and self.sources(row) <= set(before):
                yield from self.orders(rows, before + (row,))

    def least_answer(self, wished):
        """By going through all orders, so few rows alone are to be asked for."""
        rows = self.needed(wished)
        found = min((self.peak(wished, rows_in_order), rows_in_order) for rows_in_order in self.orders(rows))
        return [found[0], len(rows)] + found[1]


# Texts made by the tests: the same ones each time, from a seed


def random_formula(source, most):
    """A formula with at most so many signs."""
    if most < 3 or source.random() < 0.15:
        name = ("x", source.randrange(4))
        return ("~", name) if most == 2 and source.random() < 0.3 else name
    if source.random() < 0.15:
        return ("~", random_formula(source, most - 1))
    left = source.randrange(1, most - 1)
    return (">", random_formula(source, left), random_formula(source, most - 1 - left))


def well_known():
    p, q, r = ("x", 0), ("x", 1), ("x", 2)
    return [
        (">", p, (">", q, p)),
        (">", (">", p, (">", q, r)), (">", (">", p, q), (">", p, r))),
        (">", (">", ("~", p), ("~", q)), (">", q, p)),
        (">", (">", p, q), (">", (">", q, r), (">", p, r))),
        (">", ("~", p), (">", p, q)),
        (">", (">", p, (">", p, q)), (">", p, q)),
    ]


def random_axioms(source):
    axioms = source.sample(well_known(), source.randrange(1, 5))
    for _ in range(source.randrange(0, 3)):
        axioms.append(random_formula(source, source.randrange(1, 12)))
    source.shuffle(axioms)
    return axioms


def random_rows(source, axioms, most):
    """Rows, mostly such that something is detached."""
    proof = Proof(axioms, [], [])
    for _ in range(source.randrange(0, most + 1)):
        for _ in range(source.choice([1, 4, 8])):
            pair = (source.randrange(len(proof.formulas)), source.randrange(len(proof.formulas)))
            formula = rule(proof.formulas[pair[0]], proof.formulas[pair[1]])
            if formula is not None:
                break
        proof.rows.append(pair)
        proof.formulas.append(formula)
    return proof.rows


def random_goals(source, formulas, axioms):
    """Formulas that are proved, mostly those of rows, instances of them, and others."""
    goals = []
    for _ in range(source.randrange(0, 5)):
        start = source.choice([0, len(axioms), len(axioms)])
        goal = source.choice(formulas[start:] or formulas) if source.random() < 0.8 else random_formula(source, 7)
        if goal is None or size(goal) > 25:
            goal = random_formula(source, 5)
        if source.random() < 0.3:
            more = ("~", ("x", 0)) if source.random() < 0.5 else ("x", 0)
            goal = put_in(apart(goal), {name: more for name in unknowns(apart(goal))})
        goals.append(goal)
    return goals


def random_proofs(count, most_rows=24):
    source = random.Random(20260)
    for _ in range(count):
        axioms = random_axioms(source)
        rows = random_rows(source, axioms, most_rows)
        yield Proof(axioms, rows, random_goals(source, Proof(axioms, rows, []).formulas, axioms))


# Places hang on what rows are detached from alone; from an unknown something is detached always.
ANYTHING = [("x", 0)]


def any_rows(*pairs):
    """A proof with one axiom, item 0, and these rows, from item 1 on."""
    return Proof(ANYTHING, pairs, [])


def random_places(count, most_rows):
    """Proofs of such rows, each with items that are wished for."""
    source = random.Random(815)
    for _ in range(count):
        pairs = []
        near = source.choice([2, 4, 30])
        for number in range(1, source.randrange(1, most_rows + 1) + 1):
            low = max(0, number - near)
            pairs.append(tuple(source.choice([0, source.randrange(low, number)]) for _ in range(2)))
        wished = [source.randrange(len(pairs) + 1) for _ in range(source.randrange(1, 5))]
        yield any_rows(*pairs), wished
