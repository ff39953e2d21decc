"""The desk: calls come in as one list of numbers, and answers go out as one."""

from pieceheaps.line import START, CHAIN, CLEAR, STORE
from pieceheaps.line import Line, start, add_fact, clear_telling, add_step

# How many numbers stand behind a call's own, by that number, from start on.
NUMBERS_BEHIND = (1, 3, 3, 3, 3, 1, 2, 2, 2, 1, 1)


def answers(calls):
    """What is answered to each call of a new line, each with its count ahead."""
    line = Line()
    given = []
    at = 0
    while at < len(calls):
        behind = at + 1 + NUMBERS_BEHIND[calls[at]]
        answered = answer(line, calls[at], calls[at + 1:behind])
        given.append(len(answered))
        given.extend(answered)
        at = behind
    return given


def answer(line, call, numbers):
    """The numbers that one call answers."""
    if call == START:
        return [start(line, numbers[0])]
    if call <= CHAIN:
        return [add_fact(line, call, numbers[0], numbers[1], numbers[2])]
    if call == CLEAR:
        return [clear_telling(line, numbers[0])]
    if call <= STORE:
        return [add_step(line, call, numbers[0], numbers[1])]
    return [add_step(line, call, numbers[0], 0)]
