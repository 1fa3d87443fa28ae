"""The calls on one frame, and what they answer."""

from beadframedesk.beads import LIMIT, RODS, BeadFrame
from beadframedesk.reckon import add_number, add_product, clear_rods, take_number, take_out

START = 0
SET = 1
ADD = 2
TAKE = 3
TIMES = 4
OVER = 5
MOVE = 6
VALUE = 7
ROD = 8

# How many whole numbers stand behind a call's own number, call by call.
GIVEN_COUNTS = (0, 1, 1, 1, 2, 1, 3, 0, 1)

DONE = 0
TOO_MUCH = -75
TOO_LITTLE = -33
NO_DIVISOR = -22
NO_MOVE = -13
NO_ROD = -22


def set_to(frame, n):
    """Show n, whatever was shown."""
    if n >= LIMIT:
        return TOO_MUCH
    clear_rods(frame)
    add_number(frame, 0, n)
    return DONE


def add_to(frame, n):
    """Add n to what is shown."""
    if n >= LIMIT or frame.shown() + n >= LIMIT:
        return TOO_MUCH
    add_number(frame, 0, n)
    return DONE


def take_from(frame, n):
    """Take n away from what is shown."""
    if frame.shown() < n:
        return TOO_LITTLE
    take_number(frame, 0, n)
    return DONE


def set_to_product(frame, a, b):
    """Show a times b, whatever was shown."""
    # A factor may be too much while the product is not: times 0.
    if a >= LIMIT or b >= LIMIT or a * b >= LIMIT:
        return TOO_MUCH
    clear_rods(frame)
    add_product(frame, a, b)
    return DONE


def carry_out(frame, call, given):
    """Do what set, add, take or times asks for: DONE, or its refusal."""
    if call == SET:
        return set_to(frame, given[0])
    if call == ADD:
        return add_to(frame, given[0])
    if call == TAKE:
        return take_from(frame, given[0])
    return set_to_product(frame, given[0], given[1])


def told_numbers(frame):
    """How many moves were told, and three numbers of each."""
    numbers = [len(frame.told)]
    for told_move in frame.told:
        numbers.extend(told_move)
    return numbers


def answer_of_telling(frame, call, given):
    """The moves that set, add, take or times makes, or its refusal."""
    done = carry_out(frame, call, given)
    if done < 0:
        return [done]
    return told_numbers(frame)


def answer_of_over(frame, b):
    """The moves that divide what is shown by b, and the quotient behind them."""
    if b == 0 or b >= LIMIT:
        return [NO_DIVISOR]
    quotient = take_out(frame, b)
    return told_numbers(frame) + [quotient]


def answer_of_move(frame, rod, kind, beads):
    """Make a move by hand, if it can be made."""
    if not frame.can_make(rod, kind, beads):
        return [NO_MOVE]
    frame.make(rod, kind, beads)
    return [DONE]


def answer_of_rod(frame, rod):
    """What a rod shows, and where its beads are."""
    if rod >= RODS:
        return [NO_ROD]
    return [frame.digit_at(rod), frame.uppers_down[rod], frame.lowers_up[rod]]


def answer_of(frame, call, given):
    """The numbers that one call answers."""
    frame.told = []
    if call == START:
        frame.begin()
        return [DONE]
    if call == OVER:
        return answer_of_over(frame, given[0])
    if call == MOVE:
        return answer_of_move(frame, given[0], given[1], given[2])
    if call == VALUE:
        return [DONE, frame.shown()]
    if call == ROD:
        return answer_of_rod(frame, given[0])
    return answer_of_telling(frame, call, given)


def answers(calls):
    """What the calls on one new frame answer, each behind how many numbers it is."""
    frame = BeadFrame()
    answered = []
    at = 0
    while at < len(calls):
        call = calls[at]
        behind = at + 1 + GIVEN_COUNTS[call]
        answer = answer_of(frame, call, calls[at + 1:behind])
        answered.append(len(answer))
        answered.extend(answer)
        at = behind
    return answered
