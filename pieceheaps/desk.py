"""The desk: calls come in as one list of numbers, and answers go out as one."""

from pieceheaps.line import START, CHAIN, CLEAR, STORE, FREE, UNDO, SWAP
from pieceheaps.line import TRIPLE, SAFE, SAYS, FRAME, CAN, SURELY, FITS, RUN
from pieceheaps.line import Line, start, add_fact, clear_telling, add_step, undo_step, swap_tellings
from pieceheaps.asking import triple, safe, says, frame, can, surely, fits, run

# How many numbers stand behind a call's own, by that number, from start on;
# of fits and run those ahead of the world.
NUMBERS_BEHIND = (1, 3, 3, 3, 3, 1, 2, 2, 2, 1, 1, 0, 0, 0, 0, 0, 0, 1, 3, 2, 1)


def answers(calls):
    """What is answered to each call of a new line, each with its count ahead."""
    line = Line()
    given = []
    at = 0
    while at < len(calls):
        behind = end_of_call(calls, at)
        answered = answer(line, calls[at], calls[at + 1:behind])
        given.append(len(answered))
        given.extend(answered)
        at = behind
    return given


def end_of_call(calls, at):
    """Where the call that stands at this place is over."""
    behind = at + 1 + NUMBERS_BEHIND[calls[at]]
    if calls[at] in (FITS, RUN):
        return behind + calls[behind - 1]
    return behind


def answer(line, call, numbers):
    """The numbers that one call answers."""
    if call <= FREE:
        return [answer_of_writing(line, call, numbers)]
    if call == UNDO:
        return [undo_step(line)]
    if call == SWAP:
        return swap_tellings(line)
    return answer_of_asking(line, call, numbers)


def answer_of_writing(line, call, numbers):
    """The one number that a call from start to free answers."""
    if call == START:
        return start(line, numbers[0])
    if call <= CHAIN:
        return add_fact(line, call, numbers[0], numbers[1], numbers[2])
    if call == CLEAR:
        return clear_telling(line, numbers[0])
    if call <= STORE:
        return add_step(line, call, numbers[0], numbers[1])
    return add_step(line, call, numbers[0], 0)


def answer_of_asking(line, call, numbers):
    """The numbers that a call from triple to run answers."""
    if call == TRIPLE:
        return triple(line)
    if call == SAFE:
        return safe(line)
    if call == SAYS:
        return says(line)
    if call == FRAME:
        return frame(line)
    if call == CAN:
        return can(line, numbers[0])
    if call == SURELY:
        return surely(line, numbers[0], numbers[1], numbers[2])
    if call == FITS:
        return fits(line, numbers[0], numbers[2:])
    return run(line, numbers[1:])
