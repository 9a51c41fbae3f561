"""How many DEEDS of each HAND a VERSION has."""


def many_of(version, hand):
    """How many DEEDS of the HAND the VERSION has, 0 where none."""
    for one, many in version:
        if one == hand:
            return many
    return 0


def version_from(manys):
    """The VERSION by a dict of how many DEEDS each HAND has."""
    return tuple([(hand, manys[hand]) for hand in sorted(manys) if manys[hand] > 0])
