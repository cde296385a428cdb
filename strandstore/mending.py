"""What a row of letters was before one letter of it was changed, put in or left out."""

from strandstore.letters import STRAND_LENGTH
from strandstore.letters import are_letters
from strandstore.letters import lower_row_of
from strandstore.letters import row_weight
from strandstore.letters import strand_content
from strandstore.letters import upper_row_of

SHORTEST = 63
LONGEST = 65


def may_be_mended(letters):
    return SHORTEST <= len(letters) <= LONGEST and are_letters(letters)


def tries_at(row, place):
    """The rows of a strand's length that this one may have been, if the place is where it's off."""
    ahead = row[:place - 1]
    if len(row) > STRAND_LENGTH:
        return [ahead + row[place:]]
    if len(row) < STRAND_LENGTH:
        behind = row[place - 1:]
    else:
        behind = row[place:]
    # Where nothing is off one of the two is the row itself, so that this needs no case of its own.
    return [ahead + [0] + behind, ahead + [1] + behind]


def right_row_at(row, place):
    """The one of the tries that weighs 0, or None; not both do, as they differ by 1 to 64."""
    for tried in tries_at(row, place):
        if row_weight(tried) == 0:
            return tried
    return None


def mended_content(letters):
    """The 14 bytes in the mended strand; None if the letters can't be mended."""
    upper_row = upper_row_of(letters)
    lower_row = lower_row_of(letters)
    # One letter is off, so both rows must come right at one and the same place. If they do at several
    # it's the same strand each time: there's no more than one.
    for place in range(1, max(len(letters), STRAND_LENGTH) + 1):
        right_upper = right_row_at(upper_row, place)
        if right_upper is not None:
            right_lower = right_row_at(lower_row, place)
            if right_lower is not None:
                return strand_content(right_upper, right_lower)
    return None
