"""Tables, atoms and rules.

An atom is a tuple of its table and its two variables. A rule is a tuple of its
body and its head, and both are tuples of atoms.
"""

# The places that data goes through. Each has two tables, so that the place of a
# table is half of its number.
SOURCE = 0
MIDDLE = 1
END = 2
TABLES_OF_A_PLACE = 2

# An atom is handed in as three numbers, and so is a fact.
TRIPLE = 3
MOST_ATOMS = 2
VARIABLES = 5


def is_table_of(table, place):
    """Whether the table is one of the place."""
    return table // TABLES_OF_A_PLACE == place


def triples(numbers):
    """The numbers, three by three: the atoms or the facts that they stand for."""
    return tuple([tuple(numbers[start:start + TRIPLE]) for start in range(0, len(numbers), TRIPLE)])


def is_atom(atom, place):
    """Whether the table is one of the place and both variables are allowed."""
    return is_table_of(atom[0], place) and atom[1] < VARIABLES and atom[2] < VARIABLES


def are_atoms(numbers, place):
    """Whether the numbers make a body or a head with tables of the place."""
    if len(numbers) % TRIPLE != 0:
        return False
    atoms = triples(numbers)
    if len(atoms) < 1 or len(atoms) > MOST_ATOMS:
        return False
    return all([is_atom(atom, place) for atom in atoms])


def body_of(rule):
    """The atoms of the rule's body."""
    return rule[0]


def head_of(rule):
    """The atoms of the rule's head."""
    return rule[1]


def variables_of(atoms):
    """The variables of the atoms, each once, in the order of their first occurrence."""
    found = []
    for atom in atoms:
        for variable in atom[1:]:
            if variable not in found:
                found.append(variable)
    return found


def existential_variables(rule):
    """The variables of the head that the body does not have, in order."""
    bound = variables_of(body_of(rule))
    return [variable for variable in variables_of(head_of(rule)) if variable not in bound]
