"""Calls written by their names, answers read one by one, and the whole of an object to compare."""

from cabinetsdesk.desk import Desk
from cabinetsdesk.hall import answers
from cabinetsdesk.reading import Reader

NAMES = (
    "begin party seats wants cares worth like hate forget form leaves resign back again vote stands"
    " standing tight fewest smallest part middle joined neighbours narrowest centre motion order plain"
    " ahead alone gains swaps beats beaters unseaters calm holding middles strong fall deal mays leave"
    " stable on best governs look state"
).split()

LARGEST = 4294967295


def written(calls):
    numbers = []
    for call in calls:
        numbers.append(NAMES.index(call[0]))
        for value in call[1:]:
            if isinstance(value, list):
                numbers.append(len(value))
                numbers.extend(value)
            else:
                numbers.append(value)
    return numbers


def split(given):
    found = []
    at = 0
    while at < len(given):
        found.append(given[at + 1:at + 1 + given[at]])
        at += 1 + given[at]
    return found


def ask(*calls):
    """The answers to all calls, one list each."""
    found = split(answers(written(calls)))
    if len(found) != len(calls):
        raise AssertionError(f"{len(calls)} calls, {len(found)} answers")
    return found


def last(*calls):
    return ask(*calls)[-1]


def hall(seats, rule=0, offices=1, places=None, worth=None):
    """A begin, and a party for each of the seats."""
    calls = [("begin", rule, offices)]
    for i, n in enumerate(seats):
        x = places[i] if places else 0
        w = worth[i] if worth else [0] * offices
        calls.append(("party", n, x, 0, 1, 1, w))
    return calls


def desk_after(*calls):
    desk = Desk()
    reader = Reader(written(calls))
    while not reader.at_end():
        desk.answer(reader.read_call())
    return desk


def photo(value):
    """All that an object holds, as plain lists and dicts."""
    if isinstance(value, (list, tuple)):
        return [photo(one) for one in value]
    if hasattr(value, "__dict__"):
        return {name: photo(one) for name, one in vars(value).items()}
    return value


def photo_after(*calls):
    return photo(desk_after(*calls))
