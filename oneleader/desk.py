"""Where calls are handed in as whole numbers, and answers given back as whole numbers."""

from oneleader.calls import answer, how_many_numbers
from oneleader.state import State


def answers(calls):
    """Does the calls one behind another on a new state; tells of each how many numbers it answers, then these."""
    state = State()
    told = []
    place = 0
    while place < len(calls):
        behind = place + 1 + how_many_numbers(calls[place])
        numbers = answer(state, calls[place], calls[place + 1:behind])
        told.append(len(numbers))
        told.extend(numbers)
        place = behind
    return told
