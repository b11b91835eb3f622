"""The program's one function for others: calls in, answers out."""

from cabinetsdesk.desk import Desk
from cabinetsdesk.reading import Reader


def answers(calls):
    reader = Reader(calls)
    desk = Desk()
    given = []
    while not reader.at_end():
        answer = desk.answer(reader.read_call())
        given.append(len(answer))
        given.extend(answer)
    return given
