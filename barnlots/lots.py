"""The lots of one ware: what is taken from them, what goes back, what they hold."""


def take_along(lots, amount):
    """The lots behind and the parts, both in the order in which the lots are walked."""
    behind = []
    parts = []
    wanted = amount
    for number, left, price in lots:
        taken = min(left, wanted)
        wanted = wanted - taken
        behind.append((number, left - taken, price))
        # A part is of one or more: a lot that gives nothing is not told.
        if taken > 0:
            parts.append((number, taken, price))
    return (behind, parts)


def oldest_first(lots, amount):
    """The lots behind and the parts, when the amount is taken from the oldest on."""
    return take_along(lots, amount)


def newest_first(lots, amount):
    """The lots behind, by rising numbers, and the parts, when it is taken from the newest on."""
    taken = take_along(list(reversed(lots)), amount)
    return (list(reversed(taken[0])), taken[1])


def put_back(lots, parts):
    """The lots behind, when the amounts of the parts go back to their lots."""
    # Several parts may be of one lot, so they are added up first.
    returned = {}
    for number, amount, price in parts:
        returned[number] = returned.get(number, 0) + amount
    return [(number, left + returned.get(number, 0), price) for number, left, price in lots]


def held(lots):
    """How many are left in all the lots."""
    return sum([left for number, left, price in lots])


def worth(lots):
    """What is left in all the lots, each at its price."""
    return sum([left * price for number, left, price in lots])
