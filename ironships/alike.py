"""Whether two fives deviate alike, where they part, and how often they agree."""

from ironships.irons import check_five
from ironships.pairs import facing_waves
from ironships.waves import NOUGHT_WAVE, heading_with, is_never_below, signs_at_zeros


def are_alike(five, other):
    """Whether both fives have the same deviation at all headings at which both have force."""
    along, across = _checked_waves(five, other)
    return across == NOUGHT_WAVE and is_never_below(along)


def parting_heading(five, other):
    """A heading at which both fives have force, but not the same deviation; None if there is none."""
    along, across = _checked_waves(five, other)
    if across == NOUGHT_WAVE:
        return heading_with(along, -1)
    # Where the one force is not along the other one, both are there.
    heading = heading_with(across, 1)
    return heading_with(across, -1) if heading is None else heading


def agreeing_many(five, other):
    """The number of headings at which the fives agree, all if they are alike, endless for endlessly many otherwise."""
    along, across = _checked_waves(five, other)
    if across != NOUGHT_WAVE:
        return signs_at_zeros(across, along).count(1)
    if is_never_below(along):
        return "all"
    return 0 if heading_with(along, 1) is None else "endless"


def _checked_waves(five, other):
    """The waves that tell how the forces of two fives lie to each other."""
    check_five(five)
    check_five(other)
    return facing_waves(five, other)
