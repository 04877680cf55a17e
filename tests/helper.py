"""What the tests share: calls as numbers, answers split by call, and another way to compose rules."""

from itertools import product

from middlerules.steps import answers

BIG = 4294967295

COPY_OF_0 = ([0, 0, 1], [2, 0, 1])
COPY_OF_1 = ([1, 0, 1], [3, 0, 1])

FIRST_RULES = [
    COPY_OF_0,
    COPY_OF_1,
    ([0, 0, 1], [2, 0, 1, 2, 1, 0]),
    ([0, 0, 1, 1, 1, 2], [2, 0, 2]),
    ([0, 0, 1, 1, 1, 2], [2, 2, 0, 3, 1, 1]),
    ([0, 3, 3], [2, 3, 3]),
    ([1, 4, 2, 0, 2, 4], [3, 2, 2, 2, 4, 2]),
    ([0, 0, 1, 0, 0, 1], [2, 0, 0, 2, 0, 0]),
]

SECOND_RULES = [
    ([2, 0, 1], [4, 0, 1]),
    ([2, 0, 1], [5, 0, 3]),
    ([2, 0, 1, 2, 1, 2], [4, 0, 2]),
    ([2, 0, 1, 3, 1, 2], [4, 0, 2, 5, 2, 4]),
    ([3, 0, 0], [4, 0, 0, 4, 0, 0]),
    ([2, 0, 1, 2, 0, 1], [4, 1, 0]),
    ([2, 4, 3, 3, 3, 4], [5, 0, 1, 4, 1, 4]),
    ([2, 0, 1, 2, 2, 3], [5, 0, 3, 5, 3, 4]),
]


def begins():
    return [0]


def one(body, head):
    return [1, len(body), *body, len(head), *head]


def two(body, head):
    return [2, len(body), *body, len(head), *head]


def fact(table, a, b):
    return [3, table, a, b]


def gone(table, a, b):
    return [4, table, a, b]


def composed():
    return [5]


def rules(first_rules, second_rules):
    """The calls that add the rules."""
    return [one(*rule) for rule in first_rules] + [two(*rule) for rule in second_rules]


def ask(*calls):
    """The answers to the calls, a list for each."""
    given = answers([number for call in calls for number in call])
    found = []
    position = 0
    while position < len(given):
        count = given[position]
        found.append(given[position + 1:position + 1 + count])
        position += 1 + count
    assert position == len(given) and len(found) == len(calls), given
    return found


def last(*calls):
    """The answer to the last of the calls."""
    return ask(*calls)[-1]


def listing(*listed):
    """What composed answers when it lists these rules."""
    numbers = [len(listed)]
    for body, head in listed:
        numbers += [len(body) // 3, *body, len(head) // 3, *head]
    return numbers


def listed_rules(numbers):
    """The rules of an answer to composed, each as its body and head in tuples of atoms."""
    found = []
    position = 1
    for _ in range(numbers[0]):
        rule = []
        for _ in range(2):
            end = position + 1 + 3 * numbers[position]
            rule.append(atoms(numbers[position + 1:end]))
            position = end
        found.append(tuple(rule))
    assert position == len(numbers), numbers
    return found


def composed_of(first_rules, second_rules):
    """The rules that composed lists after these are added."""
    return listed_rules(last(*rules(first_rules, second_rules), composed()))


def atoms(numbers):
    return tuple(zip(numbers[0::3], numbers[1::3], numbers[2::3]))


def renumbered(body, head):
    """The rule with its variables, whatever they are, numbered by first occurrence."""
    order = list(dict.fromkeys(v for _, a, b in body + head for v in (a, b)))
    return tuple(tuple((t, order.index(a), order.index(b)) for t, a, b in part) for part in (body, head))


def composed_by_classes(first_rules, second_rules):
    """The composed rules by another way: variables are texts, and equal ones are grown into classes."""
    found = {}
    for body, head in second_rules:
        options = [[(f, h) for f in first_rules for h in atoms(f[1]) if h[0] == atom[0]] for atom in atoms(body)]
        for choice in product(*options):
            pairs = []
            bodies = ()
            for k, ((first_body, _), chosen) in enumerate(choice):
                own = atoms(body)[k]
                pairs += [(f"own {own[1]}", f"{k} {chosen[1]}"), (f"own {own[2]}", f"{k} {chosen[2]}")]
                bodies += tuple((t, f"{k} {a}", f"{k} {b}") for t, a, b in atoms(first_body))
            joined = tuple(dict.fromkeys((t, class_of(a, pairs), class_of(b, pairs)) for t, a, b in bodies))
            own_head = tuple((t, class_of(f"own {a}", pairs), class_of(f"own {b}", pairs)) for t, a, b in atoms(head))
            found[renumbered(joined, own_head)] = True
    return list(found)


def class_of(variable, pairs):
    """All that is equal to the variable."""
    grown = {variable}
    while True:
        more = grown.union(*[pair for pair in pairs if grown.intersection(pair)])
        if more == grown:
            return frozenset(grown)
        grown = more
