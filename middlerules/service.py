"""The rules and source facts of one request, and the operations on them."""

from middlerules.composition import composed_rules
from middlerules.facts import are_end_facts, is_source_fact, numbers_of, set_of_facts
from middlerules.matching import computed_facts, first_lack
from middlerules.rules import END, MIDDLE, SOURCE, are_atoms, existential_variables, triples

MOST_RULES = 2
MOST_FACTS = 5

# What is wrong when an operation is refused. It answers the number below 0.
INVALID = 1
NOT_THERE = 2
EXISTS = 4
EXISTENTIAL = 5
FULL = 7


class Service:
    """Holds at most two rules of each step and at most five source facts.

    An operation that is refused changes nothing: what is wrong is looked for
    before anything is stored.
    """

    def __init__(self):
        self.first_rules = []
        self.second_rules = []
        self.source_facts = []

    def begins(self):
        """Removes all rules and source facts."""
        self.first_rules.clear()
        self.second_rules.clear()
        self.source_facts.clear()
        return 0

    def one(self, body, head):
        """Adds a first rule; gives back its index."""
        if not are_atoms(body, SOURCE) or not are_atoms(head, MIDDLE):
            return -INVALID
        rule = (triples(body), triples(head))
        if len(existential_variables(rule)) > 0:
            return -EXISTENTIAL
        return index_when_added(self.first_rules, rule)

    def two(self, body, head):
        """Adds a second rule; gives back its index."""
        if not are_atoms(body, MIDDLE) or not are_atoms(head, END):
            return -INVALID
        return index_when_added(self.second_rules, (triples(body), triples(head)))

    def fact(self, table, a, b):
        """Adds a source fact; gives back how many there are."""
        if not is_source_fact((table, a, b)):
            return -INVALID
        if (table, a, b) in self.source_facts:
            return -EXISTS
        if len(self.source_facts) == MOST_FACTS:
            return -FULL
        self.source_facts.append((table, a, b))
        return len(self.source_facts)

    def gone(self, table, a, b):
        """Removes a source fact; gives back how many are left."""
        if (table, a, b) not in self.source_facts:
            return -NOT_THERE
        self.source_facts.remove((table, a, b))
        return len(self.source_facts)

    def composed(self):
        """The composed rules as numbers: how many, then body and head of each, with their counts."""
        rules = self.rules_without_middle()
        numbers = [len(rules)]
        for rule in rules:
            for atoms in rule:
                numbers.append(len(atoms))
                for atom in atoms:
                    numbers.extend(atom)
        return numbers

    def middle(self):
        """The middle facts as numbers: how many, then each."""
        return numbers_of(self.facts_of_middle())

    def end(self):
        """The facts of the end by way of the middle as numbers: how many, then each."""
        return numbers_of(computed_facts(self.second_rules, self.facts_of_middle()))

    def direct(self):
        """The facts of the end by the composed rules as numbers: how many, then each."""
        return numbers_of(computed_facts(self.rules_without_middle(), set_of_facts(self.source_facts)))

    def goes(self, facts):
        """Tells whether the facts of the end correspond to the source facts: 1 or 0."""
        if not are_end_facts(facts):
            return -INVALID
        together = self.facts_of_middle() + list(triples(facts))
        if first_lack(self.second_rules, set_of_facts(together)) is None:
            return 1
        return 0

    def lacks(self, facts):
        """Tells which composed rule does not hold with the facts of the end, and for which match, as numbers."""
        if not are_end_facts(facts):
            return [-INVALID]
        together = self.source_facts + list(triples(facts))
        lack = first_lack(self.rules_without_middle(), set_of_facts(together))
        if lack is None:
            return [0]
        numbers = [1, lack[0]]
        # The match got its values in the order of the variables of the body.
        for variable, value in lack[1].items():
            numbers.extend((variable, value))
        return numbers

    def rules_without_middle(self):
        """The composed rules."""
        return composed_rules(self.first_rules, self.second_rules)

    def facts_of_middle(self):
        """The middle facts."""
        return computed_facts(self.first_rules, set_of_facts(self.source_facts))


def index_when_added(rules, rule):
    """Puts the rule behind the others of its step, if there is room; gives back its index."""
    if len(rules) == MOST_RULES:
        return -FULL
    rules.append(rule)
    return len(rules) - 1
