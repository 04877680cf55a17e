"""Facts: which of them are allowed, and their order.

A fact is a tuple of its table and its two values, so that the order of facts is
the order of tuples.
"""

from middlerules.rules import END, SOURCE, TRIPLE, is_table_of, triples

# Values that may be handed in: known ones below the first number, and in facts of the
# end unknown ones, too.
GIVEN_KNOWN_VALUES = 20
FIRST_UNKNOWN = 100
LAST_GIVEN_UNKNOWN = 199

MOST_GIVEN_FACTS = 6


def is_source_fact(fact):
    """Whether the table is one of the source and both values are allowed there."""
    return is_table_of(fact[0], SOURCE) and is_given_known(fact[1]) and is_given_known(fact[2])


def is_end_fact(fact):
    """Whether the table is one of the end and both values are allowed there."""
    return is_table_of(fact[0], END) and is_given_value(fact[1]) and is_given_value(fact[2])


def is_given_known(value):
    """Whether the value may be handed in as a known one."""
    return value < GIVEN_KNOWN_VALUES


def is_given_value(value):
    """Whether the value may be handed in, known or unknown."""
    return is_given_known(value) or FIRST_UNKNOWN <= value <= LAST_GIVEN_UNKNOWN


def are_end_facts(numbers):
    """Whether the numbers make facts of the end, not too many of them."""
    if len(numbers) % TRIPLE != 0:
        return False
    facts = triples(numbers)
    # A fact that is listed twice counts twice here.
    return len(facts) <= MOST_GIVEN_FACTS and all([is_end_fact(fact) for fact in facts])


def set_of_facts(facts):
    """The facts, each once and in order."""
    return sorted(set(facts))


def numbers_of(facts):
    """The facts as numbers: how many, then three for each."""
    numbers = [len(facts)]
    for fact in facts:
        numbers.extend(fact)
    return numbers
