"""How digits and numbers come onto a frame and off it, move by move.

Nothing is refused here: whoever calls has seen to it that the frame has room.
"""

from beadframedesk.beads import LIMIT, LOWER_BEADS, LOWER_DOWN, LOWER_UP, RODS, UPPER_DOWN, UPPER_UP


def put_on(frame, rod, digit):
    """Put a digit from 1 to 9 on a rod that shows 9 at most with it."""
    if digit >= 5:
        frame.make(rod, UPPER_DOWN, 1)
        if digit > 5:
            frame.make(rod, LOWER_UP, digit - 5)
    elif frame.lowers_up[rod] + digit <= LOWER_BEADS:
        frame.make(rod, LOWER_UP, digit)
    else:
        frame.make(rod, UPPER_DOWN, 1)
        frame.make(rod, LOWER_DOWN, 5 - digit)


def take_off(frame, rod, digit):
    """Take a digit from 1 to 9 off a rod that shows as much."""
    if digit >= 5:
        frame.make(rod, UPPER_UP, 1)
        if digit > 5:
            frame.make(rod, LOWER_DOWN, digit - 5)
    elif frame.lowers_up[rod] >= digit:
        frame.make(rod, LOWER_DOWN, digit)
    else:
        frame.make(rod, UPPER_UP, 1)
        frame.make(rod, LOWER_UP, 5 - digit)


def add_digit(frame, rod, digit):
    """Add a digit from 1 to 9 at a rod."""
    if frame.digit_at(rod) + digit <= 9:
        put_on(frame, rod, digit)
    else:
        take_off(frame, rod, 10 - digit)
        add_digit(frame, rod + 1, 1)


def take_digit(frame, rod, digit):
    """Take a digit from 1 to 9 away at a rod."""
    if frame.digit_at(rod) >= digit:
        take_off(frame, rod, digit)
    else:
        # The next rod comes first here: the ten is there before it is used.
        take_digit(frame, rod + 1, 1)
        put_on(frame, rod, 10 - digit)


def placed_digits(number):
    """Place and digit, the highest first; a 0 is left out, as it moves nothing."""
    placed = []
    place = 0
    while number > 0:
        digit = number % 10
        if digit > 0:
            placed.append((place, digit))
        number = number // 10
        place += 1
    placed.reverse()
    return placed


def add_number(frame, rod, number):
    """Add a number at a rod, its highest digit first."""
    for place, digit in placed_digits(number):
        add_digit(frame, rod + place, digit)


def take_number(frame, rod, number):
    """Take a number away at a rod, its highest digit first."""
    for place, digit in placed_digits(number):
        take_digit(frame, rod + place, digit)


def add_product(frame, a, b):
    """Add the products of every digit of a with every digit of b."""
    digits_of_b = placed_digits(b)
    for place_a, digit_a in placed_digits(a):
        for place_b, digit_b in digits_of_b:
            add_number(frame, place_a + place_b, digit_a * digit_b)


def take_out(frame, divisor):
    """Take a divisor away as often as it goes, place by place: how often that was."""
    quotient = 0
    at_place = divisor * LIMIT
    for place in range(RODS - 1, -1, -1):
        at_place = at_place // 10
        # One digit: less than the divisor at the place above is shown by now.
        digit = frame.shown() // at_place
        take_number(frame, place, digit * divisor)
        quotient = 10 * quotient + digit
    return quotient


def clear_rods(frame):
    """Bring every bead back, from the highest rod on."""
    for rod in range(RODS - 1, -1, -1):
        if frame.uppers_down[rod] == 1:
            frame.make(rod, UPPER_UP, 1)
        if frame.lowers_up[rod] > 0:
            frame.make(rod, LOWER_DOWN, frame.lowers_up[rod])
