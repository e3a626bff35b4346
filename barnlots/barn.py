"""The barn: the lots of every ware, and what of each use is still out."""

from barnlots.lots import held, newest_first, oldest_first, put_back, worth


class Barn:
    """It begins empty. Each method that does a deed gives back the deed's answer."""

    def __init__(self):
        self.lots_by_ware = {}
        self.lots_come = 0
        # A use is kept as its ware and the parts that it has out, in the order they were taken.
        self.uses = []

    def lots_of(self, ware):
        """The lots of the ware, their numbers rising."""
        return self.lots_by_ware.get(ware, [])

    def come(self, ware, amount, price):
        """A new lot of the ware; its number."""
        number = self.lots_come
        self.lots_come = number + 1
        self.lots_by_ware[ware] = self.lots_of(ware) + [(number, amount, price)]
        return number

    def use(self, ware, amount):
        """The use's number and the parts taken, or None where the ware's lots hold fewer."""
        lots = self.lots_of(ware)
        if held(lots) < amount:
            return None
        taken = oldest_first(lots, amount)
        self.lots_by_ware[ware] = taken[0]
        number = len(self.uses)
        # A copy, so that nobody who changes the answer changes what is out.
        self.uses.append((ware, list(taken[1])))
        return (number, taken[1])

    def give_back(self, use_number, amount):
        """The parts given back, or None where there is no such use or less of it is out."""
        # Python would read a number below nought as one told from the end.
        if use_number < 0 or use_number >= len(self.uses):
            return None
        ware = self.uses[use_number][0]
        out = self.uses[use_number][1]
        if held(out) < amount:
            return None
        # A use's parts stand by rising lots, so its last part first is its newest lot first.
        returned = newest_first(out, amount)
        self.uses[use_number] = (ware, returned[0])
        self.lots_by_ware[ware] = put_back(self.lots_of(ware), returned[1])
        return returned[1]

    def counted(self, ware, found):
        """What the count tells, and the parts that were lost or that came."""
        expected = held(self.lots_of(ware))
        if found < expected:
            return ("lost", self.lose(ware, expected - found))
        if found > expected:
            return ("more", self.gain(ware, found - expected))
        return ("same", [])

    def lose(self, ware, missing):
        """The parts lost of the ware."""
        taken = newest_first(self.lots_of(ware), missing)
        self.lots_by_ware[ware] = taken[0]
        return taken[1]

    def gain(self, ware, over):
        """The one part that is all of the new lot."""
        lots = self.lots_of(ware)
        price = lots[-1][2] if len(lots) > 0 else 0
        number = self.come(ware, over, price)
        return [(number, over, price)]

    def totals(self):
        """What all lots of all wares hold, and what they are worth."""
        amount = sum([held(lots) for lots in self.lots_by_ware.values()])
        money = sum([worth(lots) for lots in self.lots_by_ware.values()])
        return (amount, money)

    def all_lots(self):
        """Every lot with its ware, in the order of the numbers."""
        told = []
        for ware, lots in self.lots_by_ware.items():
            told.extend([(ware, number, left, price) for number, left, price in lots])
        return sorted(told, key=lambda lot: lot[1])
