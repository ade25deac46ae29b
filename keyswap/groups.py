"""Dealings held against one another, by all holders or by a group of them."""

from keyswap.wishes import rather, refuse_wrong


def gladder(wishes, houses, others):
    """The holders who would rather have what they get by `others` than what they get by `houses`, least first."""
    refuse_wrong(wishes)
    return [holder for holder in range(len(wishes)) if rather(wishes, holder, others[holder], houses[holder])]


def undone_by(wishes, houses, group, among):
    """True where the group, getting the houses `among` in its order, undoes the dealing `houses`, else False."""
    refuse_wrong(wishes)
    somebody_gains = False
    for holder, house in zip(group, among):
        if rather(wishes, holder, houses[holder], house):
            return False
        if rather(wishes, holder, house, houses[holder]):
            somebody_gains = True
    return somebody_gains
