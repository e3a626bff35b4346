"""A day: deeds done one by one in a barn that begins empty."""

from barnlots.barn import Barn


def do_deed(barn, deed):
    """Does the deed in the barn; its answer."""
    if deed[0] == "come":
        return barn.come(deed[1], deed[2], deed[3])
    if deed[0] == "use":
        return barn.use(deed[1], deed[2])
    if deed[0] == "back":
        return barn.give_back(deed[1], deed[2])
    return barn.counted(deed[1], deed[2])


def answers(deeds):
    """The answer of each deed."""
    barn = Barn()
    told = []
    for deed in deeds:
        told.append(do_deed(barn, deed))
    return told


def sums(deeds):
    """Behind each deed, what all lots hold and what they are worth."""
    barn = Barn()
    told = []
    for deed in deeds:
        do_deed(barn, deed)
        told.append(barn.totals())
    return told


def lots_behind(deeds):
    """All lots behind the day, those of which nothing is left too."""
    barn = Barn()
    for deed in deeds:
        do_deed(barn, deed)
    return barn.all_lots()
