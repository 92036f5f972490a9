"""Whether the card goes round with the ship, and the headings that show a course."""

from ironships.headings import check_course
from ironships.irons import check_five
from ironships.needles import course_at
from ironships.numbers import compare, surd_of
from ironships.ratios import NOUGHT, ONE, dot, minus, negative, over, plus, sign_of, times

NOUGHT_SURD = ((0, 1), 0, (0, 1))
# At two of these a chord may only touch the circle, and at two more there may be no force.
TRIED = (
    ((1, 1), (0, 1)), ((0, 1), (1, 1)), ((-1, 1), (0, 1)), ((0, 1), (-1, 1)), ((3, 5), (4, 5)),
)


def round_word(five):
    """The round word of a five."""
    w, t1, t2 = round_numbers(five)
    beyond = sign_of(minus(dot((t1, t2), (t1, t2)), times(w, w)))
    if beyond > 0:
        return "swings"
    if beyond < 0:
        return "round" if sign_of(w) > 0 else "backward"
    return "stuck" if w == NOUGHT and _is_one_sided(five) else "dead"


def round_numbers(five):
    """The numbers W, T1 and T2 of a five."""
    check_five(five)
    a, b, c, d, e = five
    w = minus(plus(ONE, times(a, a)), dot((d, e), (d, e)))
    t1 = minus(plus(b, times(a, c)), dot((d, e), (b, c)))
    t2 = plus(minus(c, times(a, b)), minus(times(d, c), times(e, b)))
    return (w, t1, t2)


def headings_of(five, course):
    """All headings that show the course, in order, cosine and sine told by surds; None if they are endlessly many."""
    check_five(five)
    check_course(course)
    p, q = (course[0], 1), (course[1], 1)
    fore, side = _ship_lines(five)
    across = [dot((q, p), pair) for pair in zip(fore, side)]
    along = [dot((p, negative(q)), pair) for pair in zip(fore, side)]
    if across == [NOUGHT, NOUGHT, NOUGHT]:
        return None if _is_above_somewhere(along) else ()
    return _in_order([_told(point) for point in _meeting_points(across) if _sign_at(along, point) > 0])


def dead_headings(five):
    """The headings without force, in order, cosine and sine told by surds."""
    if round_word(five) != "dead":
        return ()
    w, t1, t2 = round_numbers(five)
    if w != NOUGHT:
        return (((over(negative(t1), w), 0, NOUGHT), (over(t2, w), 0, NOUGHT)),)
    fore, side = _ship_lines(five)
    # The force lies along one line here, so one part of it tells of both, unless this part is 0 at all headings.
    line = side if fore == (NOUGHT, NOUGHT, NOUGHT) else fore
    return _in_order([_told(point) for point in _meeting_points(line)])


def twin_headings(five):
    """Two unlike headings that show one course; None if there are none."""
    word, w = round_word(five), round_numbers(five)[0]
    if word in ("round", "backward") or word == "dead" and w != NOUGHT:
        return None
    for heading in TRIED:
        other = _chord_end(heading, _chord(five, heading))
        if other != heading and course_at(five, heading) is not None:
            return (heading, other)
    return None


def unshown_course(five):
    """A course that no heading shows; None if each one is shown."""
    word = round_word(five)
    if word in ("round", "backward"):
        return None
    shown = [course_at(five, heading) for heading in TRIED]
    p, q = [course for course in shown if course is not None][0]
    if round_numbers(five) == (NOUGHT, NOUGHT, NOUGHT):
        # The force lies along one line through 0.
        return (-q, p)
    # The force lies on one side of a line through 0, or on it where it is 0.
    return (-p, -q)


def _is_one_sided(five):
    """Whether B B + C C is above 4 (1 + A A)."""
    a, b, c, _, _ = five
    return sign_of(minus(dot((b, c), (b, c)), times((4, 1), plus(ONE, times(a, a))))) > 0


def _ship_lines(five):
    """The force forward and to starboard: numbers to be taken times 1, the cosine and the sine of the heading."""
    a, b, c, d, e = five
    return ((b, plus(ONE, d), minus(a, e)), (c, plus(a, e), minus(d, ONE)))


def _is_above_somewhere(line):
    """Whether the sum of 1, cosine and sine, each times its number, is above 0 at some heading."""
    steady, *swinging = line
    return sign_of(steady) > 0 or sign_of(minus(dot(swinging, swinging), times(steady, steady))) > 0


def _meeting_points(line):
    """The points of the circle at which the sum is 0, of numbers that are not all 0.

    Each is told by the parts of its cosine and sine, by the factors of a root in them, and by the root's square."""
    steady, cosines, sines = line
    size = dot((cosines, sines), (cosines, sines))
    square = minus(size, times(steady, steady))
    if sign_of(square) < 0:
        return []
    foot = [over(negative(times(steady, each)), size) for each in (cosines, sines)]
    step = [over(negative(sines), size), over(cosines, size)]
    if square == NOUGHT:
        return [(foot, step, square)]
    return [(foot, step, square), (foot, [negative(each) for each in step], square)]


def _sign_at(line, point):
    """The sign of the sum at a point of the circle."""
    foot, step, square = point
    worth = surd_of(plus(line[0], dot(line[1:], foot)), dot(line[1:], step), square)
    return compare(worth, NOUGHT_SURD)


def _told(point):
    """Cosine and sine of a point of the circle as surds."""
    foot, step, square = point
    return (surd_of(foot[0], step[0], square), surd_of(foot[1], step[1], square))


def _in_order(headings):
    """Up to two headings, told by surds, in order."""
    if len(headings) == 2 and _is_behind(headings[0], headings[1]):
        return (headings[1], headings[0])
    return tuple(headings)


def _is_behind(heading, other):
    """Whether a heading, told by surds, comes behind another one."""
    is_lower, other_is_lower = compare(heading[1], NOUGHT_SURD) < 0, compare(other[1], NOUGHT_SURD) < 0
    if is_lower != other_is_lower:
        return is_lower
    # From north to south the cosine falls, from there on it grows.
    return compare(heading[0], other[0]) == (1 if is_lower else -1)


def _chord(five, heading):
    """Which way from a heading's point on the circle the points lie that have the direction of its force."""
    w, t1, t2 = round_numbers(five)
    if (w, t1, t2) != (NOUGHT, NOUGHT, NOUGHT):
        # Towards the point without force, (- T1, T2) over W; it may be endlessly far away.
        return (negative(plus(t1, times(w, heading[0]))), minus(t2, times(w, heading[1])))
    fore, side = _ship_lines(five)
    _, cosines, sines = side if fore[1:] == (NOUGHT, NOUGHT) else fore
    return (negative(sines), cosines)


def _chord_end(heading, chord):
    """The other point of the circle on the straight line from a heading's point along the chord."""
    shift = over(times((-2, 1), dot(heading, chord)), dot(chord, chord))
    return tuple([plus(number, times(shift, way)) for number, way in zip(heading, chord)])
