"""How many numbers each call has, and the range of each."""

NUMBERS = {
    0: (),
    1: ("kind",),
    2: ("p", "q"),
    3: ("p", "s", "q", "t"),
    4: ("power", "fleet", "p", "s"),
    5: ("p",),
    6: ("p",),
    7: ("p", "q", "t", "water"),
    8: ("p", "q"),
    9: ("p", "a", "q"),
    10: ("p", "a", "q"),
    11: (),
    12: ("what", "p"),
    13: (),
    14: (),
    15: (),
    16: ("p",),
    17: (),
    18: ("p",),
    19: (),
}

# Every range begins at 0; here is how many numbers it has.
# What is not named here is a province, so its range grows with the board.
SIZES = {"kind": 3, "s": 4, "t": 4, "power": 7, "fleet": 2, "water": 2, "what": 3}


def count_of_numbers(place):
    """Behind a place that is none no numbers are looked for."""
    return len(NUMBERS.get(place, ()))


def is_call(place, numbers):
    return place in NUMBERS and len(numbers) == count_of_numbers(place)


def all_in_range(place, numbers, provinces):
    for name, number in zip(NUMBERS[place], numbers):
        if number < 0 or number >= SIZES.get(name, provinces):
            return False
    return True
