"""The rules from the source directly to the end."""

from middlerules.rules import VARIABLES, body_of, head_of, variables_of

# Each copy of a rule gets a range of variables of its own: variable v of copy k is
# k * VARIABLES + v. The second rule itself counts as copy 0.
SECOND_RULE = 0
FIRST_COPY = 1


def composed_rules(first_rules, second_rules):
    """The composed rules in order, of equal ones only the first."""
    rules = []
    for second_rule in second_rules:
        for choice in choices(body_of(second_rule), first_rules):
            rule = composed_rule(second_rule, choice)
            if rule not in rules:
                rules.append(rule)
    return rules


def choices(body, first_rules):
    """All choices for the body, in order; a choice has one option for each atom."""
    found = [[]]
    for atom in body:
        longer = []
        for choice in found:
            for option in options(atom[0], first_rules):
                longer.append(choice + [option])
        found = longer
    return found


def options(table, first_rules):
    """What can be chosen for an atom with the table: first rules, each with an atom of its head."""
    found = []
    for rule in first_rules:
        for atom in head_of(rule):
            if atom[0] == table:
                found.append((rule, atom))
    return found


def composed_rule(second_rule, choice):
    """The rule that the choice for the body of the second rule gives."""
    names = names_of_variables(body_of(second_rule), choice)
    body = []
    for copy_number, option in enumerate(choice, start=FIRST_COPY):
        for atom in body_of(option[0]):
            named = named_atom(atom, copy_number, names)
            if named not in body:
                body.append(named)
    head = [named_atom(atom, SECOND_RULE, names) for atom in head_of(second_rule)]
    # The order of first occurrence goes through the body and on through the head.
    order = variables_of(body + head)
    return (numbered_atoms(body, order), numbered_atoms(head, order))


def names_of_variables(body, choice):
    """A name for each variable of the second rule and of the copies; equal variables have the same."""
    names = list(range(VARIABLES * (len(choice) + FIRST_COPY)))
    for copy_number, option in enumerate(choice, start=FIRST_COPY):
        atom = body[copy_number - FIRST_COPY]
        chosen = option[1]
        for place in (1, 2):
            names = made_equal(names, atom[place], copied(chosen[place], copy_number))
    return names


def made_equal(names, variable, other):
    """The names when all that is equal to one variable is equal to the other one, too."""
    kept = names[variable]
    dropped = names[other]
    return [kept if name == dropped else name for name in names]


def copied(variable, copy_number):
    """The variable as the copy has it."""
    return copy_number * VARIABLES + variable


def named_atom(atom, copy_number, names):
    """The atom of the copy with the names of its variables."""
    return (atom[0], names[copied(atom[1], copy_number)], names[copied(atom[2], copy_number)])


def numbered_atoms(atoms, order):
    """The atoms with each variable replaced by its place in the order."""
    return tuple([(atom[0], order.index(atom[1]), order.index(atom[2])) for atom in atoms])
