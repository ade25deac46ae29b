"""What a holder's list of wishes means."""


def houses_for(wishes, holder):
    """The houses that are for the holder, the one wished most first and the own one last."""
    order = []
    for house in wishes[holder]:
        # What stands behind the own house counts for nothing.
        if house == holder:
            break
        order.append(house)
    order.append(holder)
    return order


def rather(wishes, holder, one, other):
    """True where the holder would rather have the house `one` than the house `other`, else False."""
    order = houses_for(wishes, holder)
    if one not in order:
        return False
    if other not in order:
        return True
    return order.index(one) < order.index(other)
