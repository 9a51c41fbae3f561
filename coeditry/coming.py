"""The turn in which DEEDS came."""

from coeditry.books import table_of
from coeditry.deeds import key_of
from coeditry.errors import NoKey
from coeditry.kinds import is_key


def as_they_came(deeds, came):
    """The DEEDS, handed in in ORDER, as the KEYS of came tell, () as in ORDER; or NoKey."""
    if len(came) == 0:
        return list(deeds)
    table = table_of(deeds)
    told = {}
    for key in came:
        if not is_key(key) or key not in table or key in told:
            raise NoKey(key)
        told[key] = table[key]
    for deed in deeds:
        if key_of(deed) not in told:
            raise NoKey(key_of(deed))
    return list(told.values())
