"""The needle at one heading: the force on it, the deviation, and the course that it shows."""

from ironships.headings import course_along
from ironships.ratios import NOUGHT, dot, negative, over, sign_of
from ironships.waves import east_wave, force_wave, north_wave, wave_at


def north_part(five, heading):
    """The force at the needle to the north."""
    return wave_at(north_wave(five), heading)


def east_part(five, heading):
    """The force at the needle to the east."""
    return wave_at(east_wave(five), heading)


def force_square(five, heading):
    """The square of the force at the needle."""
    return wave_at(force_wave(five), heading)


def deviation_word(five, heading):
    """The word of a heading: to which side the needle points there, or how without a side."""
    north, east = sign_of(north_part(five, heading)), sign_of(east_part(five, heading))
    if east != 0:
        return "east" if east > 0 else "west"
    if north == 0:
        return "dead"
    return "plain" if north > 0 else "against"


def tangent_at(five, heading):
    """The tangent of the deviation, also for a part to the north below 0; None if this part is 0."""
    north, east = north_part(five, heading), east_part(five, heading)
    return None if north == NOUGHT else over(east, north)


def course_at(five, heading):
    """The course that the heading shows; None if it shows none."""
    force = (north_part(five, heading), east_part(five, heading))
    cosine, sine = heading
    fore, port = dot((cosine, sine), force), dot((sine, negative(cosine)), force)
    if fore == NOUGHT and port == NOUGHT:
        return None
    return course_along((fore, port))
