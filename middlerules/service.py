"""The rules and source facts of one request, and the operations on them."""

from middlerules.composition import composed_rules
from middlerules.rules import END, MIDDLE, SOURCE, are_atoms, existential_variables, is_table_of, triples

MOST_RULES = 2
MOST_FACTS = 5
FACT_VALUES = 20

# What is wrong when an operation is refused. It answers the number below 0.
INVALID = 1
NOT_THERE = 2
EXISTS = 4
EXISTENTIAL = 5
FULL = 7


class Service:
    """Holds at most two rules of each step and at most five source facts.

    An operation that is refused changes nothing: what is wrong is looked for
    before anything is stored.
    """

    def __init__(self):
        self.first_rules = []
        self.second_rules = []
        self.source_facts = []

    def begins(self):
        """Removes all rules and source facts."""
        self.first_rules.clear()
        self.second_rules.clear()
        self.source_facts.clear()
        return 0

    def one(self, body, head):
        """Adds a first rule; gives back its index."""
        if not are_atoms(body, SOURCE) or not are_atoms(head, MIDDLE):
            return -INVALID
        rule = (triples(body), triples(head))
        if len(existential_variables(rule)) > 0:
            return -EXISTENTIAL
        return index_when_added(self.first_rules, rule)

    def two(self, body, head):
        """Adds a second rule; gives back its index."""
        if not are_atoms(body, MIDDLE) or not are_atoms(head, END):
            return -INVALID
        return index_when_added(self.second_rules, (triples(body), triples(head)))

    def fact(self, table, a, b):
        """Adds a source fact; gives back how many there are."""
        if not is_table_of(table, SOURCE) or a >= FACT_VALUES or b >= FACT_VALUES:
            return -INVALID
        if (table, a, b) in self.source_facts:
            return -EXISTS
        if len(self.source_facts) == MOST_FACTS:
            return -FULL
        self.source_facts.append((table, a, b))
        return len(self.source_facts)

    def gone(self, table, a, b):
        """Removes a source fact; gives back how many are left."""
        if (table, a, b) not in self.source_facts:
            return -NOT_THERE
        self.source_facts.remove((table, a, b))
        return len(self.source_facts)

    def composed(self):
        """The composed rules as numbers: how many, then body and head of each, with their counts."""
        rules = composed_rules(self.first_rules, self.second_rules)
        numbers = [len(rules)]
        for rule in rules:
            for atoms in rule:
                numbers.append(len(atoms))
                for atom in atoms:
                    numbers.extend(atom)
        return numbers


def index_when_added(rules, rule):
    """Puts the rule behind the others of its step, if there is room; gives back its index."""
    if len(rules) == MOST_RULES:
        return -FULL
    rules.append(rule)
    return len(rules) - 1
