"""What the tests share: calls as numbers, answers split by call, and another way to get what is answered."""

from itertools import product

from middlerules.steps import answers

BIG = 4294967295

COPY_OF_0 = ([0, 0, 1], [2, 0, 1])
COPY_OF_1 = ([1, 0, 1], [3, 0, 1])

FIRST_RULES = [
    COPY_OF_0,
    COPY_OF_1,
    ([0, 0, 1], [2, 0, 1, 2, 1, 0]),
    ([0, 0, 1, 1, 1, 2], [2, 0, 2]),
    ([0, 0, 1, 1, 1, 2], [2, 2, 0, 3, 1, 1]),
    ([0, 3, 3], [2, 3, 3]),
    ([1, 4, 2, 0, 2, 4], [3, 2, 2, 2, 4, 2]),
    ([0, 0, 1, 0, 0, 1], [2, 0, 0, 2, 0, 0]),
]

SECOND_RULES = [
    ([2, 0, 1], [4, 0, 1]),
    ([2, 0, 1], [5, 0, 3]),
    ([2, 0, 1, 2, 1, 2], [4, 0, 2]),
    ([2, 0, 1, 3, 1, 2], [4, 0, 2, 5, 2, 4]),
    ([3, 0, 0], [4, 0, 0, 4, 0, 0]),
    ([2, 0, 1, 2, 0, 1], [4, 1, 0]),
    ([2, 4, 3, 3, 3, 4], [5, 0, 1, 4, 1, 4]),
    ([2, 0, 1, 2, 2, 3], [5, 0, 3, 5, 3, 4]),
]

FACT_SETS = [
    [],
    [(0, 3, 3)],
    [(0, 2, 1), (0, 1, 2)],
    [(0, 2, 3), (1, 2, 2), (0, 1, 2)],
    [(1, 2, 1), (0, 1, 2), (0, 2, 1), (1, 1, 1)],
    [(1, 19, 0), (0, 0, 19), (0, 0, 0), (0, 19, 0), (1, 0, 19)],
]


def begins():
    return [0]


def one(body, head):
    return [1, len(body), *body, len(head), *head]


def two(body, head):
    return [2, len(body), *body, len(head), *head]


def fact(table, a, b):
    return [3, table, a, b]


def gone(table, a, b):
    return [4, table, a, b]


def composed():
    return [5]


def middle():
    return [6]


def end():
    return [7]


def direct():
    return [8]


def goes(facts):
    return [9, len(facts), *facts]


def lacks(facts):
    return [10, len(facts), *facts]


def rules(first_rules, second_rules):
    """The calls that add the rules."""
    return [one(*rule) for rule in first_rules] + [two(*rule) for rule in second_rules]


def source(facts):
    """The calls that add the facts."""
    return [fact(*one_fact) for one_fact in facts]


def flat(rows):
    """The numbers of the rows (calls, atoms or facts), one row behind another."""
    return [number for row in rows for number in row]


def ask(*calls):
    """The answers to the calls, a list for each."""
    given = answers(flat(calls))
    found = []
    position = 0
    while position < len(given):
        count = given[position]
        found.append(given[position + 1:position + 1 + count])
        position += 1 + count
    assert position == len(given) and len(found) == len(calls), given
    return found


def last(*calls):
    """The answer to the last of the calls."""
    return ask(*calls)[-1]


def listing(*listed):
    """What composed answers when it lists these rules."""
    numbers = [len(listed)]
    for body, head in listed:
        numbers += [len(body) // 3, *body, len(head) // 3, *head]
    return numbers


def counted(*facts):
    """What middle, end and direct answer when these are the facts."""
    return [len(facts), *flat(facts)]


def listed_facts(numbers):
    """The facts of an answer to middle, end or direct."""
    assert len(numbers) == 1 + 3 * numbers[0], numbers
    return atoms(numbers[1:])


def listed_rules(numbers):
    """The rules of an answer to composed, each as its body and head in tuples of atoms."""
    found = []
    position = 1
    for _ in range(numbers[0]):
        rule = []
        for _ in range(2):
            end = position + 1 + 3 * numbers[position]
            rule.append(atoms(numbers[position + 1:end]))
            position = end
        found.append(tuple(rule))
    assert position == len(numbers), numbers
    return found


def composed_of(first_rules, second_rules):
    """The rules that composed lists after these are added."""
    return listed_rules(last(*rules(first_rules, second_rules), composed()))


def atoms(numbers):
    return tuple(zip(numbers[0::3], numbers[1::3], numbers[2::3]))


def renumbered(body, head):
    """The rule with its variables, whatever they are, numbered by first occurrence."""
    order = list(dict.fromkeys(v for _, a, b in body + head for v in (a, b)))
    return tuple(tuple((t, order.index(a), order.index(b)) for t, a, b in part) for part in (body, head))


def composed_by_classes(first_rules, second_rules):
    """The composed rules by another way: variables are texts, and equal ones are grown into classes."""
    found = {}
    for body, head in second_rules:
        options = [[(f, h) for f in first_rules for h in atoms(f[1]) if h[0] == atom[0]] for atom in atoms(body)]
        for choice in product(*options):
            pairs = []
            bodies = ()
            for k, ((first_body, _), chosen) in enumerate(choice):
                own = atoms(body)[k]
                pairs += [(f"own {own[1]}", f"{k} {chosen[1]}"), (f"own {own[2]}", f"{k} {chosen[2]}")]
                bodies += tuple((t, f"{k} {a}", f"{k} {b}") for t, a, b in atoms(first_body))
            joined = tuple(dict.fromkeys((t, class_of(a, pairs), class_of(b, pairs)) for t, a, b in bodies))
            own_head = tuple((t, class_of(f"own {a}", pairs), class_of(f"own {b}", pairs)) for t, a, b in atoms(head))
            found[renumbered(joined, own_head)] = True
    return list(found)


def class_of(variable, pairs):
    """All that is equal to the variable."""
    grown = {variable}
    while True:
        more = grown.union(*[pair for pair in pairs if grown.intersection(pair)])
        if more == grown:
            return frozenset(grown)
        grown = more


def matches_by_choice(body, facts):
    """The matches by another way: all choices of facts for the atoms, without those that do not fit."""
    for chosen in product(*[[own for own in sorted(facts) if own[0] == atom[0]] for atom in body]):
        pairs = {pair for atom, own in zip(body, chosen) for pair in zip(atom[1:], own[1:])}
        if len(pairs) == len(dict(pairs)):
            yield dict(pairs)


def variables_in(rule_atoms):
    return list(dict.fromkeys(variable for _, a, b in rule_atoms for variable in (a, b)))


def computed_by_choice(rules_in_order, facts):
    """The computed facts by the other way; rules are pairs of bodies and heads in atoms."""
    found = set()
    unknown = 100
    for body, head in rules_in_order:
        for values in matches_by_choice(body, facts):
            for variable in variables_in(head):
                if variable not in values:
                    values[variable] = unknown
                    unknown += 1
            found |= {(table, values[a], values[b]) for table, a, b in head}
    return sorted(found)


def lacking_match(rule, facts):
    """The first match of the body for which no values suit, by trial of all values, or None."""
    body, head = rule
    known = sorted({value for one_fact in facts for value in one_fact[1:]})
    for values in matches_by_choice(body, facts):
        free = [variable for variable in variables_in(head) if variable not in values]
        for tried in product(known, repeat=len(free)):
            own = {**values, **dict(zip(free, tried))}
            if all((table, own[a], own[b]) in facts for table, a, b in head):
                break
        else:
            return values
    return None


def in_atoms(rules_of_numbers):
    return [(atoms(body), atoms(head)) for body, head in rules_of_numbers]


def middle_by_choice(first_rules, facts):
    return computed_by_choice(in_atoms(first_rules), facts)


def goes_by_choice(first_rules, second_rules, facts, given):
    """What goes answers, by way of the middle facts."""
    together = set(middle_by_choice(first_rules, facts)) | set(given)
    return [int(all(lacking_match(rule, together) is None for rule in in_atoms(second_rules)))]


def lacks_by_choice(first_rules, second_rules, facts, given):
    """What lacks answers, by the composed rules."""
    for index, rule in enumerate(composed_by_classes(first_rules, second_rules)):
        values = lacking_match(rule, set(facts) | set(given))
        if values is not None:
            return [1, index, *flat((variable, values[variable]) for variable in variables_in(rule[0]))]
    return [0]


def maps_into(facts, others):
    """Whether unknown values can be given values so that all the facts are among the others."""
    return all(any(becomes(part, chosen) for chosen in product(others, repeat=len(part))) for part in parts(facts))


def parts(facts):
    """The facts in parts that have no unknown value in common, so that each can be mapped by itself."""
    found = []
    for one_fact in facts:
        unknown = {value for value in one_fact[1:] if value >= 100}
        linked = [part for part in found if unknown & part[0]]
        found = [part for part in found if part not in linked]
        found.append((unknown.union(*[part[0] for part in linked]), flat([part[1] for part in linked]) + [one_fact]))
    return [part[1] for part in found]


def becomes(facts, chosen):
    """Whether one mapping makes each fact the one that is chosen for it."""
    pairs = {pair for own, other in zip(facts, chosen) for pair in zip(own[1:], other[1:])}
    return (
        all(own[0] == other[0] for own, other in zip(facts, chosen))
        and len(pairs) == len(dict(pairs))
        and all(value == other for value, other in pairs if value < 100)
    )


def many_states(step):
    """First rules, second rules and source facts: every so many of all that the lists above give."""
    first_sets = [[]] + [[rule] for rule in FIRST_RULES] + [list(pair) for pair in product(FIRST_RULES, repeat=2)]
    second_sets = [[]] + [[rule] for rule in SECOND_RULES] + [list(pair) for pair in product(SECOND_RULES, repeat=2)]
    return list(product(first_sets, second_sets, FACT_SETS))[::step]


def set_up(first_rules, second_rules, facts):
    """The calls that add all of these."""
    return rules(first_rules, second_rules) + source(facts)
