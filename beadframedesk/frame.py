"""The calls on one frame, and what they answer."""

from beadframedesk.beads import BeadFrame
from beadframedesk.reckon import add_number, add_product, clear_rods, take_number

START = 0
SET = 1
ADD = 2
TAKE = 3
TIMES = 4

# How many whole numbers stand behind a call's own number, call by call.
GIVEN_COUNTS = (0, 1, 1, 1, 2)

# A frame shows numbers below this one.
LIMIT = 1000000000000

DONE = 0
TOO_MUCH = -75
TOO_LITTLE = -33


def set_to(frame, n):
    """Show n, whatever was shown."""
    if n >= LIMIT:
        return TOO_MUCH
    clear_rods(frame)
    add_number(frame, 0, n)
    return DONE


def add_to(frame, n):
    """Add n to what is shown."""
    if n >= LIMIT or frame.shown() + n >= LIMIT:
        return TOO_MUCH
    add_number(frame, 0, n)
    return DONE


def take_from(frame, n):
    """Take n away from what is shown."""
    if frame.shown() < n:
        return TOO_LITTLE
    take_number(frame, 0, n)
    return DONE


def set_to_product(frame, a, b):
    """Show a times b, whatever was shown."""
    # A factor may be too much while the product is not: times 0.
    if a >= LIMIT or b >= LIMIT or a * b >= LIMIT:
        return TOO_MUCH
    clear_rods(frame)
    add_product(frame, a, b)
    return DONE


def carry_out(frame, call, given):
    """Do what a call that tells moves asks for: DONE, or its refusal."""
    if call == SET:
        return set_to(frame, given[0])
    if call == ADD:
        return add_to(frame, given[0])
    if call == TAKE:
        return take_from(frame, given[0])
    return set_to_product(frame, given[0], given[1])


def answer_of(frame, call, given):
    """The numbers that one call answers."""
    if call == START:
        frame.begin()
        return [DONE]
    frame.told = []
    done = carry_out(frame, call, given)
    if done < 0:
        return [done]
    numbers = [len(frame.told)]
    for told_move in frame.told:
        numbers.extend(told_move)
    return numbers


def answers(calls):
    """What the calls on one new frame answer, each behind how many numbers it is."""
    frame = BeadFrame()
    answered = []
    at = 0
    while at < len(calls):
        call = calls[at]
        behind = at + 1 + GIVEN_COUNTS[call]
        answer = answer_of(frame, call, calls[at + 1:behind])
        answered.append(len(answer))
        answered.extend(answer)
        at = behind
    return answered
