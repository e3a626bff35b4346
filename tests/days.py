"""Long days for the tests, and a second, slower barn to hold the program against."""

WARES = ["", "oats", "Oats", "oats ", " oats", "o ats"]


class Dice:
    """Numbers that look cast but are the same in every run and on every Python."""

    def __init__(self, seed):
        self.state = seed

    def cast(self, sides):
        self.state = (self.state * 6364136223846793005 + 1442695040888963407) % 2**64
        return (self.state >> 33) % sides


def long_day(seed, length, scale=1):
    """A day of deeds, some of which can't be done; amounts and prices are multiples of scale."""
    dice = Dice(seed)
    wares = WARES[: 1 + dice.cast(len(WARES))]
    deeds = []
    uses = 0
    for _ in range(length):
        ware = wares[dice.cast(len(wares))]
        kind = dice.cast(10)
        if kind < 3:
            deeds.append(("come", ware, (1 + dice.cast(9)) * scale, dice.cast(6) * scale))
        elif kind < 6:
            deeds.append(("use", ware, (1 + dice.cast(12)) * scale))
            uses += 1
        elif kind < 9:
            # Every use asked for may have been refused, so some of these numbers are of no use.
            deeds.append(("back", dice.cast(uses + 3) - 1, (1 + dice.cast(6)) * scale))
        else:
            deeds.append(("count", ware, dice.cast(14) * scale))
    return deeds


class PieceBarn:
    """Keeps every single piece by itself, with the place where it is.

    A piece is [ware, lot, price, place]; its place is "barn", "lost" or the number of a use.
    """

    def __init__(self):
        self.pieces = []
        self.lots = []
        self.uses = 0

    def there(self, ware):
        return [piece for piece in self.pieces if piece[0] == ware and piece[3] == "barn"]

    def move(self, pieces, place):
        parts = []
        for piece in pieces:
            piece[3] = place
            if parts and parts[-1][0] == piece[1]:
                parts[-1] = (piece[1], parts[-1][1] + 1, piece[2])
            else:
                parts.append((piece[1], 1, piece[2]))
        return parts

    def come(self, ware, amount, price):
        number = len(self.lots)
        self.lots.append((ware, number, price))
        self.pieces.extend([ware, number, price, "barn"] for _ in range(amount))
        return number

    def use(self, ware, amount):
        there = self.there(ware)
        if len(there) < amount:
            return None
        number = self.uses
        self.uses += 1
        return (number, self.move(there[:amount], number))

    def back(self, use, amount):
        out = [piece for piece in self.pieces if piece[3] == use]
        if len(out) < amount:
            return None
        return self.move(out[::-1][:amount], "barn")

    def count(self, ware, found):
        there = self.there(ware)
        if found < len(there):
            return ("lost", self.move(there[::-1][: len(there) - found], "lost"))
        if found == len(there):
            return ("same", [])
        price = ([0] + [lot[2] for lot in self.lots if lot[0] == ware])[-1]
        over = found - len(there)
        return ("more", [(self.come(ware, over, price), over, price)])

    def do(self, deed):
        return getattr(self, deed[0])(*deed[1:])

    def totals(self):
        there = [piece for piece in self.pieces if piece[3] == "barn"]
        return (len(there), sum(piece[2] for piece in there))

    def told_lots(self):
        left = [0] * len(self.lots)
        for piece in self.pieces:
            left[piece[1]] += piece[3] == "barn"
        return [(ware, number, left[number], price) for ware, number, price in self.lots]


class Ledger:
    """What came, is lost and is out of each lot, read from deeds and answers alone."""

    def __init__(self):
        self.came = []
        self.lost = []
        self.out = []
        self.prices = []

    def add_lot(self, amount, price):
        self.came.append(amount)
        self.lost.append(0)
        self.out.append(0)
        self.prices.append(price)

    def write(self, deed, answer):
        if deed[0] == "come":
            self.add_lot(deed[2], deed[3])
        elif deed[0] == "use" and answer is not None:
            self.book(self.out, answer[1], 1)
        elif deed[0] == "back" and answer is not None:
            self.book(self.out, answer, -1)
        elif deed[0] == "count" and answer[0] == "lost":
            self.book(self.lost, answer[1], 1)
        elif deed[0] == "count" and answer[0] == "more":
            self.add_lot(answer[1][0][1], answer[1][0][2])

    def book(self, column, parts, sign):
        for number, amount, price in parts:
            assert amount >= 1 and price == self.prices[number], (number, amount, price)
            column[number] += sign * amount

    def money(self, column):
        return sum(amount * price for amount, price in zip(column, self.prices))
