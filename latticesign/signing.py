"""The calls, as they are handed in and answered."""

from latticesign.keymaking import made_keys
from latticesign.kinds import is_kind, kind_of
from latticesign.refusals import ChanceTooShort


def keys(kind, seed):
    """[0] and pk's and sk's bytes; [-1] if kind is none; [-2] if chance doesn't suffice."""
    if not is_kind(kind):
        return [-1]
    try:
        made = made_keys(kind_of(kind), seed)
    except ChanceTooShort:
        return [-2]
    return [0] + made
