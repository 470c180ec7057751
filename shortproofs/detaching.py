"""The rule: what is detached from two formulas."""

from shortproofs.formulas import DENIES, FIRST_UNKNOWN, IMPLIES

MOST_SIGNS_ON_THE_WAY = 1000
MOST_SIGNS_DETACHED = 60


class Nodes:
    """Parts of formulas, as nodes that can be made the same.

    Each node has a sign, the nodes of its parts, and a node to which it was joined: itself, if it leads the nodes
    that became the same. What is put for an unknown is never copied, so that it can't grow beyond all bounds.
    """

    def __init__(self):
        self.signs = []
        self.parts = []
        self.joined = []

    def add_node(self, sign, parts):
        self.signs.append(sign)
        self.parts.append(parts)
        self.joined.append(len(self.joined))
        return len(self.joined) - 1

    def add_formula(self, formula):
        """Nodes for the formula, its unknowns unlike all that are there; its own node is given back."""
        unknowns = {}
        above = []
        for sign in reversed(formula):
            if sign == IMPLIES:
                first = above.pop()
                second = above.pop()
                above.append(self.add_node(IMPLIES, (first, second)))
            elif sign == DENIES:
                above.append(self.add_node(DENIES, (above.pop(),)))
            else:
                if sign not in unknowns:
                    unknowns[sign] = self.add_node(FIRST_UNKNOWN, ())
                above.append(unknowns[sign])
        return above[0]

    def leader(self, node):
        while self.joined[node] != node:
            node = self.joined[node]
        return node

    def part_leaders(self, node):
        return [self.leader(part) for part in self.parts[node]]

    def make_same(self, first, second):
        """Makes both nodes the same, and their parts; answers whether none of them were unlike."""
        waiting = [(first, second)]
        while len(waiting) > 0:
            pair = waiting.pop()
            one = self.leader(pair[0])
            other = self.leader(pair[1])
            if one == other:
                continue
            if self.signs[one] == FIRST_UNKNOWN:
                self.joined[one] = other
            elif self.signs[other] == FIRST_UNKNOWN:
                self.joined[other] = one
            elif self.signs[one] != self.signs[other]:
                return False
            else:
                self.joined[one] = other
                waiting.extend(list(zip(self.parts[one], self.parts[other])))
        return True

    def sign_count(self, node):
        """How many signs the node has written out; None if one of its parts would stand within itself."""
        top = self.leader(node)
        counts = {}
        begun = {}
        waiting = [top]
        while len(waiting) > 0:
            here = waiting[-1]
            parts = self.part_leaders(here)
            missing = [part for part in parts if part not in counts]
            if len(missing) == 0:
                counts[here] = 1 + sum([counts[part] for part in parts])
                waiting.pop()
            elif here in begun:
                # All that was missing has been counted when a node is met again, if it isn't met within itself.
                return None
            else:
                begun[here] = True
                waiting.extend(missing)
        return counts[top]

    def written(self, node):
        """The formula that the node has become."""
        formula = []
        unknowns = {}
        waiting = [node]
        while len(waiting) > 0:
            here = self.leader(waiting.pop())
            if self.signs[here] == FIRST_UNKNOWN:
                formula.append(unknowns.setdefault(here, FIRST_UNKNOWN + len(unknowns)))
            else:
                formula.append(self.signs[here])
                for part in reversed(self.parts[here]):
                    waiting.append(part)
        return tuple(formula)


def detached(first, second):
    """What is detached from both formulas, the implication first; None if nothing is."""
    if first[0] == DENIES:
        return None
    if first[0] != IMPLIES:
        return (FIRST_UNKNOWN,)
    nodes = Nodes()
    implication = nodes.parts[nodes.add_formula(first)]
    if not nodes.make_same(implication[0], nodes.add_formula(second)):
        return None
    on_the_way = nodes.sign_count(implication[0])
    if on_the_way is None or on_the_way > MOST_SIGNS_ON_THE_WAY:
        return None
    if nodes.sign_count(implication[1]) > MOST_SIGNS_DETACHED:
        return None
    return nodes.written(implication[1])
