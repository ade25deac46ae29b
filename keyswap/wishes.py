"""What a holder's list of wishes means, and which wishes are refused."""

from keyswap.errors import NoHouse, Twice


def refuse_wrong(wishes):
    """Raises NoHouse where some list names a number that is no house, else Twice where some list names one twice."""
    # The numbers of all lists come first: NoHouse goes ahead of a Twice in whichever list.
    # The words name the holder alone, as a number of very many figures can't be written into a text.
    for holder, told in enumerate(wishes):
        for house in told:
            if house < 0 or house >= len(wishes):
                raise NoHouse(f"the list of holder {holder} names a number that is no house")
    for holder, told in enumerate(wishes):
        if len(set(told)) < len(told):
            raise Twice(f"the list of holder {holder} names a house twice")


def houses_for(wishes, holder):
    """The houses that are for the holder, the one wished most first and the own one last."""
    order = []
    for house in wishes[holder]:
        # What stands behind the own house counts for nothing.
        if house == holder:
            break
        order.append(house)
    order.append(holder)
    return order


def rather(wishes, holder, one, other):
    """True where the holder would rather have the house `one` than the house `other`, else False."""
    order = houses_for(wishes, holder)
    if one not in order:
        return False
    if other not in order:
        return True
    return order.index(one) < order.index(other)
