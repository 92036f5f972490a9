"""The document's own examples, in its order: each says what a line returns, or what it raises."""

import doctest
import unittest

# The names that one part assigns are used by those behind it.
PARTS = (
    ("numbers", r"""
>>> from ironships.numbers import compare, is_surd, near, surd_of
>>> root_two = surd_of((0, 1), (1, 1), (2, 1))
>>> [surd_of((1, 2), (2, 1), (2, 1)), surd_of((1, 1), (-1, 2), (9, 4)), is_surd(((1, 2), 1, (4, 1))), compare(root_two, surd_of((0, 1), (1, 1), (3, 1))), near(root_two, 100), near(surd_of((0, 1), (-1, 1), (2, 1)), 1)]
[((1, 2), 1, (8, 1)), ((1, 4), 0, (0, 1)), False, -1, (141, False), (-2, False)]
"""),
    ("headings", r"""
>>> from ironships.headings import course_of, half_of, heading_along, heading_of, is_course, is_heading, mirrored, order_of, quarter_of, turned
>>> north, east, south, west = ((1, 1), (0, 1)), ((0, 1), (1, 1)), ((-1, 1), (0, 1)), ((0, 1), (-1, 1))
>>> steer = heading_of((1, 2))
>>> [steer, heading_of(None), half_of(west), half_of(south), turned(steer, steer), mirrored(steer), turned(steer, mirrored(steer))]
[((3, 5), (4, 5)), ((-1, 1), (0, 1)), (-1, 1), None, ((-7, 25), (24, 25)), ((3, 5), (-4, 5)), ((1, 1), (0, 1))]
>>> [quarter_of(each) for each in (north, steer, turned(steer, steer), south, west)]
[0, 0, 1, 2, 3]
>>> [order_of(steer, east), order_of(west, steer), order_of(north, north), course_of(steer), course_of(west), heading_along((3, 4)), heading_along((1, 1)), is_heading(((3, 5), (3, 5))), is_course((2, 2))]
[-1, 1, 0, (3, 4), (0, -1), ((3, 5), (4, 5)), None, False, False]
"""),
    ("irons", r"""
>>> from ironships.irons import five_of, is_iron, joined, plain_iron, strength_of
>>> nil = (0, 1)
>>> hull = (((1, 5), nil, (1, 10), (2, 1)), (nil, (-1, 5), nil, (-1, 1)), (nil, nil, (1, 5), (3, 1)))
>>> fix = ((nil, nil, nil, (-4, 1)), (nil, nil, nil, (1, 1)), (nil, nil, nil, nil))
>>> home = ((10, 1), (20, 1))
>>> [strength_of(hull), five_of(hull, home), five_of(joined(hull, fix), home), five_of(joined(hull, fix), ((10, 1), (0, 1)))]
[(1, 1), ((0, 1), (2, 5), (-1, 10), (1, 5), (0, 1)), ((0, 1), (0, 1), (0, 1), (1, 5), (0, 1)), ((0, 1), (-1, 5), (0, 1), (1, 5), (0, 1))]
>>> plain_iron(five_of(hull, home), home)
(((1, 5), (0, 1), (0, 1), (4, 1)), ((0, 1), (-1, 5), (0, 1), (-1, 1)), ((0, 1), (0, 1), (0, 1), (0, 1)))
>>> joined(hull, (((-3, 1), nil, nil, nil), (nil, nil, nil, nil), (nil, nil, nil, nil)))
raises TooMuchIron()
"""),
    ("needles", r"""
>>> from ironships.needles import course_at, deviation_word, east_part, force_square, north_part, tangent_at
>>> nil = (0, 1)
>>> tame, brink, wild = (nil, (1, 2), nil, nil, nil), (nil, (1, 1), nil, nil, nil), (nil, (2, 1), nil, nil, nil)
>>> [north_part(tame, steer), east_part(tame, steer), tangent_at(tame, steer), force_square(tame, steer), course_at(tame, steer), course_at(tame, east), course_at(brink, south)]
[(13, 10), (2, 5), (4, 13), (37, 20), (11, 8), (1, 2), None]
>>> [deviation_word(tame, steer), deviation_word(tame, north), deviation_word(tame, west), deviation_word(brink, south), deviation_word(wild, south), tangent_at((nil, (5, 3), nil, nil, nil), ((-3, 5), (4, 5)))]
['east', 'plain', 'west', 'dead', 'against', None]
"""),
    ("rounds", r"""
>>> from ironships.rounds import dead_headings, headings_of, round_numbers, round_word, twin_headings, unshown_course
>>> back, stiff, rocker = (nil, nil, nil, (2, 1), nil), (nil, (3, 1), nil, (1, 1), nil), (nil, nil, (1, 1), (1, 1), nil)
>>> [round_word(each) for each in (tame, back, wild, rocker, brink, stiff)]
['round', 'backward', 'swings', 'swings', 'dead', 'stuck']
>>> [round_numbers(tame), round_numbers(rocker), twin_headings(tame), unshown_course(tame), headings_of(stiff, (1, 0)), headings_of(stiff, (-1, 0)), headings_of(wild, (0, 1))]
[((1, 1), (1, 2), (0, 1)), ((0, 1), (0, 1), (2, 1)), None, None, None, (), ()]
>>> headings_of(tame, (0, 1))
((((-1, 2), 0, (0, 1)), ((0, 1), 1, (3, 4))),)
>>> headings_of(wild, (3, 1))
((((-1, 5), 1, (27, 50)), ((3, 5), 1, (3, 50))), (((-1, 5), -1, (27, 50)), ((3, 5), -1, (3, 50))))
>>> [dead_headings(brink), dead_headings((nil, (1, 1), nil, (1, 1), nil))]
[((((-1, 1), 0, (0, 1)), ((0, 1), 0, (0, 1))),), ((((-1, 2), 0, (0, 1)), ((0, 1), 1, (3, 4))), (((-1, 2), 0, (0, 1)), ((0, 1), -1, (3, 4))))]
"""),
    ("waves", r"""
>>> from ironships.waves import east_wave, force_wave, heading_with, mixed, north_wave, turned_wave, wave_at, wave_row, zero_near, zeros_of
>>> half, one, two = (1, 2), (1, 1), (2, 1)
>>> sixty, fifths = ((-1, 2), one, nil, nil, nil), ((-3, 5), one, nil, nil, nil)
>>> [wave_at(sixty, north), wave_at(fifths, ((3, 5), (-4, 5))), zeros_of(sixty), wave_row(sixty), zero_near(sixty, 0, 1000), zero_near(sixty, 1, 1000), heading_with(sixty, 0)]
[(1, 2), (0, 1), 2, (-1, 1), (0, 577, False), (3, 267, False), None]
>>> [zero_near(fifths, 0, 10), zero_near(fifths, 1, 10), wave_at(fifths, heading_with(fifths, 0)), wave_at(fifths, heading_with(fifths, -1))[0] < 0, turned_wave((nil, one, nil, nil, nil), east)]
[(0, 5, True), (3, 3, False), (0, 1), True, ((0, 1), (0, 1), (-1, 1), (0, 1), (0, 1))]
>>> quarters = (nil, nil, nil, (1, 4), nil)
>>> [north_wave(tame), east_wave(tame), force_wave(tame), zeros_of((nil,) * 5), wave_row((nil,) * 5), mixed(north_wave(tame), east_wave(tame), two) == (one, half, one, nil, nil)]
[((1, 1), (1, 2), (0, 1), (0, 1), (0, 1)), ((0, 1), (0, 1), (1, 2), (0, 1), (0, 1)), ((5, 4), (1, 1), (0, 1), (0, 1), (0, 1)), 'all', (0,), True]
>>> [wave_row(east_wave(tame)), zero_near(east_wave(tame), 1, 7), wave_row(east_wave(quarters)), zeros_of(force_wave(wild)), wave_row(force_wave(wild))]
[(1, -1), (2, 0, True), (1, -1, 1, -1), 0, (1,)]
"""),
    ("bounds", r"""
>>> from ironships.bounds import breaking_heading, deviates_less, greater_heading, greatest_force, greatest_tangent, is_ahead, is_as_strong, is_within, least_force, least_tangent, plain_many, weak_heading, zero_words
>>> [is_ahead(tame), is_ahead(wild), is_within(tame, (-3, 5), (3, 5)), is_within(tame, (-1, 2), half), greatest_tangent(tame, 10), least_tangent(tame, 10), breaking_heading(tame, (-3, 5), (3, 5))]
[True, False, True, False, 5, -6, None]
>>> broken = breaking_heading(tame, nil, half)
>>> [wave_at(mixed(east_wave(tame), north_wave(tame), (-1, 2)), broken)[0] > 0 or wave_at(east_wave(tame), broken)[0] < 0, is_as_strong(tame, (1, 4)), is_as_strong(tame, (1, 3)), least_force(tame, 100), greatest_force(tame, 100), weak_heading(tame, (1, 4))]
[True, True, False, 25, 225, None]
>>> [zero_words(tame), zero_words(wild), plain_many(wild), plain_many(quarters), plain_many((nil,) * 5)]
[('plain', 'plain'), ('plain', 'against'), 1, 4, 'all']
>>> slight = (nil, (1, 4), nil, nil, nil)
>>> [deviates_less(slight, tame), deviates_less(tame, slight), deviates_less(quarters, tame), deviates_less(tame, tame), greater_heading(slight, tame)]
[True, False, False, True, None]
>>> greatest_tangent(wild, 10)
raises NotAhead()
>>> is_within(tame, one, half)
raises HighBelowLow(given=(1, 2))
"""),
    ("alike", r"""
>>> from ironships.alike import agreeing_many, are_alike, parting_heading
>>> forward = [(nil, (B, 1), nil, one, nil) for B in (1, 2, 3, 5, -3)]
>>> [are_alike(forward[2], forward[3]), are_alike(forward[1], forward[2]), are_alike(forward[0], forward[2]), are_alike(forward[4], forward[2]), are_alike(tame, wild), parting_heading(forward[1], forward[3])]
[True, True, False, False, False, None]
>>> [agreeing_many(tame, wild), agreeing_many(tame, tame), agreeing_many(forward[0], forward[2]), agreeing_many(forward[4], forward[2]), agreeing_many(tame, quarters)]
[1, 'all', 'endless', 0, 4]
"""),
    ("heels", r"""
>>> from ironships.heels import heel_rate, heel_waves, heeled, is_still, is_within_heels, righting_magnet
>>> nothing = (nil, nil, nil, nil)
>>> post, level = (nothing, nothing, (nil, nil, nil, one)), ((1, 1), (0, 1))
>>> heeled(post, half) == (nothing, (nil, nil, nil, (-4, 5)), (nil, nil, nil, (3, 5)))
True
>>> heel_waves(post, level, north)
(((1, 1), (0, 1), (0, 1), (0, 1), (0, 1)), ((0, 1), (0, 1), (-1, 1), (0, 1), (0, 1)))
>>> mast = (nothing, nothing, (nil, nil, nil, two))
>>> [is_still(post, level, north, half), is_still(post, level, east, half), is_still(mast, level, east, half), is_within_heels(post, level, north, half, (-4, 5), (4, 5)), is_within_heels(post, level, north, half, (-4, 5), (3, 4))]
[False, True, False, True, False]
>>> [heel_rate(post, level, north), heel_rate(post, level, east), righting_magnet(post, level, north), righting_magnet(post, level, east)]
[(-1, 1), (0, 1), (0, 1), None]
"""),
    ("seas", r"""
>>> from ironships.seas import are_alike_anywhere, has_none_anywhere, is_sea, is_within_over, parting_row, place_between, round_shares, sea_shares, soft_and_hard, spot_of, word_over
>>> steel = ((nil, nil, nil, (1, 2)), (nil, nil, nil, nil), (nil, nil, nil, nil))
>>> port, cape = ((1, 1), (2, 1)), ((1, 4), (2, 1))
>>> [is_sea((port, cape)), is_sea(()), spot_of(port), spot_of(cape), place_between(port, cape, (1, 3))]
[True, False, ((1, 1), (2, 1)), ((4, 1), (8, 1)), ((1, 2), (2, 1))]
>>> [sea_shares((port, cape), ((1, 2), (2, 1))), sea_shares((port, cape), ((1, 2), (1, 1))), parting_row((port, cape), ((1, 2), (2, 1)))]
[((2, 3), (1, 3)), None, None]
>>> [word_over(steel, (port,)), word_over(steel, (port, cape)), round_shares(steel, port, cape), round_shares(steel, cape, cape)]
['round', None, (((0, 1), 0, (0, 1)), ((1, 3), 0, (0, 1))), None]
>>> [is_within_over(steel, (port,), (-1, 1), (1, 1)), is_within_over(steel, (port,), (-1, 2), (1, 2)), is_within_over(steel, (port, cape), (-9, 1), (9, 1))]
[True, False, False]
>>> ball = (((1, 1), nil, nil, (1, 1)), (nil, (1, 1), nil, nil), (nil, nil, nil, nil))
>>> [has_none_anywhere(steel), has_none_anywhere((((1, 9), nil, nil, nil), (nil, (1, 9), nil, nil), (nil, nil, (1, 2), (1, 3)))), are_alike_anywhere(steel, ball)]
[False, True, True]
>>> soft_and_hard((nil, (1, 1), nil, nil, nil), port, (nil, (1, 2), nil, nil, nil), ((1, 1), nil))
(((1, 4), (0, 1)), ((1, 2), (0, 1)))
>>> soft_and_hard((nil, (1, 1), nil, nil, nil), port, (nil, (1, 2), nil, nil, nil), cape)
raises SameDip()
"""),
    ("boxes", r"""
>>> from ironships.boxes import built, clearing_counts, fewest_pieces, is_box
>>> magnet = ((nil, nil, nil, (-1, 4)), (nil, nil, nil, nil), (nil, nil, nil, nil))
>>> [is_box(((magnet, 3),)), is_box(((magnet, 6),)), built(steel, ((magnet, 3),), (1,))[0]]
[True, False, ((0, 1), (0, 1), (0, 1), (1, 4))]
>>> [fewest_pieces(steel, port, ((magnet, 3),), (-1, 3), (1, 3)), fewest_pieces(steel, port, ((magnet, 3),), nil, nil), fewest_pieces(steel, port, ((magnet, 1),), nil, nil), clearing_counts(steel, ((magnet, 3),)), clearing_counts(steel, ((ball, 2),))]
[(1,), (2,), None, (2,), None]
"""),
    ("notes", r"""
>>> from ironships.notes import any_five, are_clash_weights, clash_weights, clashing, fits, keeps, needless_readings, number_range, reading_of, reading_word, settled_numbers
>>> slant = ((4, 5), (3, 5))
>>> still, steep = (nil, nil, nil, nil, nil), (nil, (1, 2), nil, nil, nil)
>>> [reading_of(steep, north), reading_of(steep, east), reading_of((nil, (2, 1), nil, nil, nil), south), keeps(steep, (east, (1, 4), (3, 4))), keeps(steep, (east, (3, 4), (1, 1)))]
[(((1, 1), (0, 1)), (0, 1), (0, 1)), (((0, 1), (1, 1)), (1, 2), (1, 2)), None, True, False]
>>> calm = tuple([(heading, nil, nil) for heading in (north, east, south, west, steer)])
>>> [any_five(calm), settled_numbers(calm), settled_numbers(calm[::2][:2]), number_range(calm[::2][:2], 2), number_range(calm[:1], 0), settled_numbers(())]
[((0, 1), (0, 1), (0, 1), (0, 1), (0, 1)), (0, 1, 2, 3, 4), (2,), ((0, 1), (0, 1)), (None, None), ()]
>>> [reading_word(calm, (slant, nil, nil)), reading_word(calm, (slant, (1, 1), (1, 1))), reading_word(calm[:1], (north, nil, (1, 2))), reading_word(calm[:1], (east, nil, nil)), needless_readings(calm), needless_readings(calm + ((slant, nil, nil),))]
['sure', 'never', 'sure', 'open', (), (0, 1, 2, 3, 4, 5)]
>>> noisy = calm + ((slant, (1, 1), (1, 1)),)
>>> [fits(still, calm), any_five(noisy), clash_weights(calm), clashing(calm), are_clash_weights(noisy, clash_weights(noisy)), are_clash_weights(noisy, ((nil, nil, nil),) * 6)]
[True, None, None, None, True, False]
"""),
    ("consoles", r"""
>>> from ironships.consoles import Console
>>> from ironships.workshops import Workshop
>>> shop = Workshop()
>>> console = Console(shop)
>>> [console.say("put oak: 1/5 0/1 1/10 2/1; 0/1 -1/5 0/1 -1/1; 0/1 0/1 1/5 3/1"), shop.named("oak") == hull, console.say("names"), console.say("five oak: 10/1 20/1"), console.say("word oak: 10/1 20/1")]
['done', True, 'oak', '0/1 2/5 -1/10 1/5 0/1', 'round']
>>> [console.say("tangent oak: 10/1 20/1; 0/1"), console.say("tangent oak: 10/1 20/1; south")]
['-1/16', '1/8']
>>> shop.wish(("round", "oak", home))
>>> console.say("put oak: 0/1 0/1 0/1 20/1; 0/1 0/1 0/1 0/1; 0/1 0/1 0/1 0/1")
raises Broken(index=0)
>>> [len(shop), console.say("undo"), shop.wishes, console.say("drop oak"), console.say("names")]
[2, 'done', (), 'done', 'none']
"""),
    ("certificates", r"""
>>> from ironships.checker import accepts
>>> from ironships.certificates import certify_box, certify_readings, certify_sea, certify_twins, certify_word
>>> [accepts(("round word", tame, "round"), ()), accepts(("round word", tame, "dead"), ()), accepts(("twins", wild), (north, south)), accepts(("twins", tame), (north, south)), accepts(("not within", tame, nil, half), west), accepts(("not within", tame, nil, half), north)]
[True, False, True, False, True, False]
>>> [certify_word(brink), certify_twins(tame), certify_sea((port, cape), ((1, 2), (2, 1))), certify_readings(calm), certify_box(steel, ((magnet, 3),))[0][0]]
[(('round word', ((0, 1), (1, 1), (0, 1), (0, 1), (0, 1)), 'dead'), ()), (('no twins', ((0, 1), (1, 2), (0, 1), (0, 1), (0, 1))), ()), (('in sea', (((1, 1), (2, 1)), ((1, 4), (2, 1))), ((1, 2), (2, 1))), ((2, 3), (1, 3))), (('fit', ((((1, 1), (0, 1)), (0, 1), (0, 1)), (((0, 1), (1, 1)), (0, 1), (0, 1)), (((-1, 1), (0, 1)), (0, 1), (0, 1)), (((0, 1), (-1, 1)), (0, 1), (0, 1)), (((3, 5), (4, 5)), (0, 1), (0, 1)))), ((0, 1), (0, 1), (0, 1), (0, 1), (0, 1))), 'clears']
"""),
)


def answer(source, names):
    """What the document shows for a line."""
    try:
        try:
            told = eval(source, names)
            return "" if told is None else repr(told)
        except SyntaxError:
            exec(source, names)
            return ""
    except ValueError as error:
        told = ", ".join(f"{name}={value!r}" for name, value in vars(error).items())
        return f"raises {type(error).__name__}({told})"


class Examples(unittest.TestCase):
    def test_the_examples_of_the_document(self):
        names, many = {}, 0
        for part, text in PARTS:
            for example in doctest.DocTestParser().get_examples(text):
                with self.subTest(part=part, line=example.source):
                    self.assertEqual(answer(example.source, names), example.want.strip())
                many += 1
        self.assertEqual(many, 95)


if __name__ == "__main__":
    unittest.main()
