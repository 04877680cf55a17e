"""How facts match atoms, which rules hold in facts, and which facts rules compute.

An assignment is a dict: the value of each variable. Facts come in as a set of facts
in its order, since the order of the matches follows from it.
"""

from middlerules.facts import FIRST_UNKNOWN, set_of_facts
from middlerules.rules import body_of, existential_variables, head_of


def facts_by_table(facts):
    """The facts of each table that has some, in order."""
    found = {}
    for fact in facts:
        found.setdefault(fact[0], []).append(fact)
    return found


def matches(atoms, assignment, tables):
    """All assignments that go on from this one and match the atoms, in order."""
    found = [assignment]
    for atom in atoms:
        facts = tables.get(atom[0], [])
        longer = []
        for shorter in found:
            for fact in facts:
                extended = with_values_of(fact, atom, shorter)
                if extended is not None:
                    longer.append(extended)
        found = longer
    return found


def with_values_of(fact, atom, assignment):
    """The assignment, extended so that the atom becomes the fact, or None if it can't."""
    extended = dict(assignment)
    for place in (1, 2):
        if extended.setdefault(atom[place], fact[place]) != fact[place]:
            return None
    return extended


def first_lack(rules, facts):
    """The first rule that does not hold, as its index and the match that shows it, or None if all hold."""
    tables = facts_by_table(facts)
    for index, rule in enumerate(rules):
        assignment = first_match_without_head(rule, tables)
        if assignment is not None:
            return (index, assignment)
    return None


def first_match_without_head(rule, tables):
    """The first match of the body with which no values match the head, or None if there is none."""
    for assignment in matches(body_of(rule), {}, tables):
        if len(matches(head_of(rule), assignment, tables)) == 0:
            return assignment
    return None


def computed_facts(rules, facts):
    """The set of facts that the rules compute from facts without unknown values."""
    tables = facts_by_table(facts)
    computed = []
    # As no fact has an unknown value, the next unused one is found by counting.
    unknown = FIRST_UNKNOWN
    for rule in rules:
        existential = existential_variables(rule)
        for assignment in matches(body_of(rule), {}, tables):
            values = with_unknown_values(existential, unknown, assignment)
            unknown += len(existential)
            for atom in head_of(rule):
                computed.append((atom[0], values[atom[1]], values[atom[2]]))
    return set_of_facts(computed)


def with_unknown_values(variables, first, assignment):
    """The assignment, extended by one unknown value for each variable, counted from the first."""
    extended = dict(assignment)
    for value, variable in enumerate(variables, start=first):
        extended[variable] = value
    return extended
