"""The refusals that every call looks at first."""

from percentlinks.signs import LAST_BYTE, LAST_SIGN, all_up_to

NOT_A_SIGN = -1
TOO_LONG = -2

TEXT_LIMIT = 2048
DATA_LIMIT = 1024

ESCAPE = 18
# The calls put and fill, whose second row is a data row.
WITH_DATA = (19, 20)


def first_refusal(call):
    """The refusal that is looked at ahead of all else, or 0."""
    texts = call.rows
    data = []
    if call.number in WITH_DATA:
        texts = call.rows[:1]
        data = call.rows[1]
    last = LAST_BYTE if call.number == ESCAPE else LAST_SIGN
    # All texts are asked the one before any is asked the other.
    if not all([all_up_to(last, text) for text in texts]):
        return NOT_A_SIGN
    if any([len(text) > TEXT_LIMIT for text in texts]) or len(data) > DATA_LIMIT:
        return TOO_LONG
    return 0
