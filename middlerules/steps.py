"""The way in: a request of calls, one behind another, and what is answered to each of them."""

from middlerules.reader import Reader
from middlerules.service import Service

BEGINS = 0
ONE = 1
TWO = 2
FACT = 3
GONE = 4
COMPOSED = 5
MIDDLE = 6
END = 7
DIRECT = 8
GOES = 9
LACKS = 10


class UnknownCall(ValueError):
    """A call that is not served."""


def answers(calls):
    """What the calls answer on a new service: for each its count of numbers, then these numbers."""
    service = Service()
    reader = Reader(calls)
    given = []
    while not reader.is_done():
        numbers = answer(service, reader)
        given.append(len(numbers))
        given.extend(numbers)
    return given


def answer(service, reader):
    """Takes the next call from the reader and applies it; gives back all that it answers."""
    call = reader.number()
    if call == BEGINS:
        return [service.begins()]
    if call == ONE or call == TWO:
        return [answer_to_rule(service, reader, call)]
    if call == FACT or call == GONE:
        return [answer_to_fact(service, reader, call)]
    if call == COMPOSED:
        return service.composed()
    if call == MIDDLE:
        return service.middle()
    if call == END:
        return service.end()
    if call == DIRECT:
        return service.direct()
    if call == GOES:
        return [service.goes(reader.row())]
    if call == LACKS:
        return service.lacks(reader.row())
    raise UnknownCall(f"call {call} is not served")


def answer_to_rule(service, reader, call):
    """Takes body and head and adds the rule to the step that the call names."""
    body = reader.row()
    head = reader.row()
    if call == ONE:
        return service.one(body, head)
    return service.two(body, head)


def answer_to_fact(service, reader, call):
    """Takes table and values and adds or removes the fact, as the call says."""
    table = reader.number()
    a = reader.number()
    b = reader.number()
    if call == FACT:
        return service.fact(table, a, b)
    return service.gone(table, a, b)
