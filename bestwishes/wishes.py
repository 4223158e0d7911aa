"""Calls, told as one list of whole numbers, and their answers, told likewise."""

from bestwishes.session import Session

NO_LIST = -1

LOAD = 0
BOUND = 1
BEGIN = 2
LIKE = 3
STILL = 4
ASK = 5
BEST = 6

# How many whole numbers a call has, by its number; load has a row instead.
HOW_MANY = (0, 3, 2, 2, 0, 0, 0, 0)


def answers(calls):
    """For each call, in order, how many numbers are answered, and these."""
    session = Session()
    told = []
    place = 0
    while place < len(calls):
        first = first_number(calls, place)
        behind = first + how_many_numbers(calls, place)
        answer = answer_call(session, calls[place], calls[first:behind])
        told.append(len(answer))
        told.extend(answer)
        place = behind
    return told


def first_number(calls, place):
    """Where the numbers of the call at a place begin; a row's length stands before them."""
    return place + 2 if calls[place] == LOAD else place + 1


def how_many_numbers(calls, place):
    return calls[place + 1] if calls[place] == LOAD else HOW_MANY[calls[place]]


def answer_call(session, call, numbers):
    if call == LOAD:
        return session.load(numbers)
    if session.held is None:
        return [NO_LIST]
    if call == BOUND:
        return session.bound(numbers[0], numbers[1], numbers[2])
    if call == BEGIN:
        return session.begin(numbers[0], numbers[1])
    if call == LIKE:
        return session.like(numbers[0], numbers[1])
    if call == STILL:
        return session.still()
    if call == ASK:
        return session.ask()
    if call == BEST:
        return session.best()
    return session.undo()
