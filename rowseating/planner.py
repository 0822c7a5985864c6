"""The one way in: a list of calls, answered by a list of numbers."""

from rowseating.operations import argument_count, perform
from rowseating.state import Session


def answers(calls):
    session = Session()
    told = []
    start = 0
    while start < len(calls):
        number = calls[start]
        behind = start + 1 + argument_count(number)
        answer = perform(session, number, calls[start + 1:behind])
        told.append(len(answer))
        told.extend(answer)
        start = behind
    return told
