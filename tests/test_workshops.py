"""Point [45] and the interface of workshops.py, with what points [3], [4] and [5] say of its arguments."""

import copy
import unittest
from fractions import Fraction
from unittest.mock import ANY

from ironships.bounds import is_as_strong, is_within
from ironships.consoles import Console
from ironships.errors import (
    Broken, CompassError, InUse, InvalidIndex, InvalidIron, InvalidName, InvalidWish, NothingToUndo, UnknownName,
)
from ironships.heels import is_still
from ironships.irons import five_of, plain_iron
from ironships.rounds import round_word
from ironships.seas import is_within_over, word_over
from ironships.workshops import Workshop
from samples import (
    EAST, HALF, HUGE, LEVEL, NIL, NORTH, NOTHING, ONE, POST, STEER, STRANGE, Spiteful, Stream,
    five_of as numbers_five, fraction, rows_of,
)

LITTLE = Fraction(1, 10 ** 40)
PORT, CAPE = ((1, 1), (2, 1)), ((1, 4), (2, 1))
PLAIN = rows_of([0] * 12)
NAMES = ("a", "oak", "elm", "abcdefghijkl", "z" * 12, "round", "undo", "none")
NO_NAMES = [value for value in STRANGE if type(value) is not str or value != "text"] + [
    "A", "oaK", "a b", " a", "a ", "a\n", "a1", "1", "a-b", "a.", "a" * 13, "abcdefghijklm", "z" * 4000, "\u00e4",
    "\u0430", "a\x00", "a\u0301", b"oak", ["oak"], ("oak",), {"oak": 1}, "oak:", "_", "\u00aa",
]


def steel(strength):
    """An iron that pulls forward alone: B is this at the place (1, 0)."""
    return rows_of([0, 0, 0, strength] + [0] * 8)


def cross(strength):
    """An iron with E alone."""
    return rows_of([0, strength, 0, 0, strength] + [0] * 7)


def mixed(strength):
    """An iron that does nothing at PORT, and at LEVEL what steel does."""
    return rows_of([0, 0, -strength / Fraction(2), strength] + [0] * 8)


def holds(wish, iron):
    """What [45] says that a wish is."""
    form, _, where, *rest = wish
    if form == "round":
        return round_word(five_of(iron, where)) == "round"
    if form == "within":
        return is_within(five_of(iron, where), *rest)
    if form == "strong":
        return is_as_strong(five_of(iron, where), *rest)
    if form == "round over":
        return word_over(iron, where) == "round"
    if form == "within over":
        return is_within_over(iron, where, *rest)
    return is_still(iron, where, *rest)


def shown(shop):
    """All that a workshop tells of itself."""
    names = shop.names
    return names, shop.wishes, [shop.named(name) for name in names], len(shop), [name in shop for name in NAMES]


def led_back(shop):
    """What the workshop shows as all is undone, step by step; it is as before then, for a trial does it."""
    told = []

    class Back(Exception):
        pass

    try:
        with shop.trial():
            while len(shop):
                told.append(shown(shop))
                shop.undo()
            raise Back()
    except Back:
        return told


class Refusals(unittest.TestCase):
    def refused(self, call, error, shop, **kept):
        """The call raises this error, and the workshop is as it was, with all that can be undone."""
        before, back = shown(shop), led_back(shop)
        with self.assertRaises(error) as caught:
            call()
        self.assertIs(type(caught.exception), error)
        self.assertEqual(list(vars(caught.exception)), list(kept))
        for name, value in kept.items():
            self.assertIs(vars(caught.exception)[name], value)
        self.assertEqual(shown(shop), before)
        self.assertEqual(led_back(shop), back)


class Names(Refusals):
    def test_a_new_one(self):
        shop = Workshop()
        self.assertEqual((shop.names, shop.wishes, len(shop)), ((), (), 0))
        self.assertIs(type(shop.names), tuple)
        self.assertIs(type(shop.wishes), tuple)

    def test_put_and_named(self):
        shop = Workshop()
        for many, name in enumerate(NAMES):
            self.assertNotIn(name, shop)
            self.assertIsNone(shop.put(name, steel(many)))
            self.assertIn(name, shop)
            self.assertEqual(len(shop), many + 1)
            self.assertEqual(shop.names, tuple(sorted(NAMES[:many + 1])))
        for many, name in enumerate(NAMES):
            self.assertEqual(shop.named(name), steel(many))
            self.assertEqual(shop.named(name=name), steel(many))

    def test_put_in_the_place_of_another_one(self):
        shop = Workshop()
        shop.put("oak", POST)
        shop.put(iron=PLAIN, name="oak")
        self.assertEqual((shop.names, shop.named("oak"), len(shop)), (("oak",), PLAIN, 2))
        # What is there already is put once more, which can be taken back, too.
        shop.put("oak", PLAIN)
        self.assertEqual((shop.named("oak"), len(shop)), (PLAIN, 3))
        shop.undo()
        self.assertEqual((shop.named("oak"), len(shop)), (PLAIN, 2))
        shop.undo()
        self.assertEqual((shop.named("oak"), len(shop)), (POST, 1))

    def test_what_is_no_name(self):
        shop = Workshop()
        shop.put("oak", POST)
        for value in NO_NAMES:
            with self.subTest(repr(value)[:40]):
                self.refused(lambda: shop.put(value, POST), InvalidName, shop, given=value)
                self.refused(lambda: shop.put(iron=None, name=value), InvalidName, shop, given=value)
                self.refused(lambda: shop.drop(value), UnknownName, shop, given=value)
                self.refused(lambda: shop.named(name=value), UnknownName, shop, given=value)
                self.assertIs(value in shop, False)

    def test_names_that_are_not_here(self):
        shop = Workshop()
        shop.put("oak", POST)
        for name in ("a", "oa", "oakk", "elm", "", "OAK", "x" * 4000):
            self.refused(lambda: shop.drop(name=name), UnknownName, shop, given=name)
            self.refused(lambda: shop.named(name), UnknownName, shop, given=name)
            self.assertIs(name in shop, False)
        shop.drop("oak")
        self.refused(lambda: shop.named("oak"), UnknownName, shop, given="oak")
        self.refused(lambda: shop.drop("oak"), UnknownName, shop, given="oak")

    def test_what_is_no_iron(self):
        shop = Workshop()
        shop.put("oak", POST)
        for value in STRANGE + [(NOTHING,) * 2, [NOTHING] * 3, rows_of([-2] + [0] * 11), LEVEL, list(POST)]:
            for name in ("oak", "elm"):
                self.refused(lambda: shop.put(name, value), InvalidIron, shop, given=value)
                self.refused(lambda: shop.put(iron=value, name=name), InvalidIron, shop, given=value)

    def test_drop(self):
        shop = Workshop()
        for name in NAMES:
            shop.put(name, POST)
        self.assertIsNone(shop.drop("elm"))
        self.assertNotIn("elm", shop)
        self.assertEqual(shop.names, tuple(sorted(set(NAMES) - {"elm"})))
        self.assertEqual(len(shop), len(NAMES) + 1)
        shop.undo()
        self.assertEqual((shop.names, shop.named("elm")), (tuple(sorted(NAMES)), POST))

    def test_drop_a_name_with_a_wish(self):
        shop = Workshop()
        for name in ("oak", "elm", "ash"):
            shop.put(name, PLAIN)
        for name in ("oak", "elm", "oak", "elm"):
            shop.wish(("round", name, PORT))
        self.refused(lambda: shop.drop("oak"), InUse, shop, index=0)
        self.refused(lambda: shop.drop("elm"), InUse, shop, index=1)
        shop.lift(0)
        self.refused(lambda: shop.drop("oak"), InUse, shop, index=1)
        self.refused(lambda: shop.drop(name="elm"), InUse, shop, index=0)
        shop.lift(1)
        self.assertIsNone(shop.drop("oak"))
        self.assertIsNone(shop.drop("ash"))
        self.assertEqual((shop.names, len(shop.wishes)), (("elm",), 2))


RIGHT = (
    ("round", "oak", PORT), ("within", "oak", PORT, (-1, 1), ONE), ("strong", "oak", PORT, (1, 9)),
    ("round over", "oak", (PORT, LEVEL)), ("within over", "oak", (PORT, LEVEL), (-1, 1), ONE),
    ("still", "oak", PORT, NORTH, HALF),
)
WRONG_PARTS = {
    "place": [(NIL, ONE), [ONE, ONE], (PORT,), NOTHING, None],
    "sea": [(), [PORT], PORT, (PORT,) * 7, (PORT, None), None],
    "low": [0, (2, 4), [0, 1], None, (2, 1)],
    "high": [0, (2, 4), [0, 1], None, (-2, 1)],
    "force": [NIL, (-1, 2), 1, (2, 4), None],
    "heading": [(ONE, ONE), NIL, list(NORTH), None],
    "half": [NIL, ONE, (-1, 2), (3, 2), (2, 4), 1, None],
}
PART_NAMES = (("place",), ("place", "low", "high"), ("place", "force"), ("sea",), ("sea", "low", "high"),
              ("place", "heading", "half"))


def wrong_wishes():
    """Values that are no wishes, though each is nearly one."""
    for wish, parts in zip(RIGHT, PART_NAMES):
        yield from (list(wish), wish[:-1], wish + (NIL,), wish + ((),), (wish,), wish[1:], wish[:2] + wish[3:])
        for form in ("", "Round", "round ", "within  over", "over", None, 1, b"round", ["round"], Spiteful(), "dead"):
            yield (form,) + wish[1:]
        for name in NO_NAMES:
            yield (wish[0], name) + wish[2:]
        for at, part in enumerate(parts, 2):
            for value in WRONG_PARTS[part] + [Spiteful()]:
                yield wish[:at] + (value,) + wish[at + 1:]
        for other in RIGHT:
            if other != wish:
                yield (other[0],) + wish[1:]


class Wishes(Refusals):
    def shop_with(self, iron):
        shop = Workshop()
        shop.put("oak", iron)
        return shop

    def test_all_six_forms(self):
        shop = self.shop_with(PLAIN)
        for many, wish in enumerate(RIGHT):
            self.assertIsNone(shop.wish(wish))
            self.assertEqual((shop.wishes, len(shop)), (RIGHT[:many + 1], many + 2))
        # Once more, and they are there twice.
        for wish in RIGHT:
            self.assertIsNone(shop.wish(wish=wish))
        self.assertEqual((shop.wishes, len(shop)), (RIGHT * 2, 13))

    def test_what_is_no_wish(self):
        shop = self.shop_with(PLAIN)
        shop.wish(RIGHT[0])
        for value in STRANGE + list(wrong_wishes()):
            with self.subTest(repr(value)[:80]):
                with self.assertRaises(InvalidWish) as caught:
                    shop.wish(value)
                self.assertEqual(list(vars(caught.exception)), ["given"])
                self.assertIs(caught.exception.given, value)
        self.assertEqual((shop.wishes, len(shop)), (RIGHT[:1], 2))
        for value in (None, RIGHT[0][:2], ("round", "Oak", PORT), ("round", "elm", None)):
            self.refused(lambda: shop.wish(wish=value), InvalidWish, shop, given=value)

    def test_unknown_names_in_each_form(self):
        shop = self.shop_with(PLAIN)
        for wish in RIGHT:
            for name in ("elm", "oakk", "o", "abcdefghijkl"):
                self.refused(lambda: shop.wish((wish[0], name) + wish[2:]), UnknownName, shop, given=name)

    def test_bounds_that_just_hold(self):
        sloped = steel(Fraction(3, 5))
        shelf = rows_of([0] * 11 + [Fraction(5, 4) - LITTLE])
        for iron, well, broken in (
            (steel(1 - LITTLE), ("round", "oak", LEVEL), ("round", "oak", ((99, 100), NIL))),
            (sloped, ("within", "oak", LEVEL, (-3, 4), (3, 4)),
             ("within", "oak", LEVEL, (-3, 4), fraction(Fraction(3, 4) - LITTLE))),
            (sloped, ("within", "oak", LEVEL, (-3, 4), (3, 4)),
             ("within", "oak", LEVEL, fraction(LITTLE - Fraction(3, 4)), (3, 4))),
            (sloped, ("strong", "oak", LEVEL, (4, 25)), ("strong", "oak", LEVEL, fraction(Fraction(4, 25) + LITTLE))),
            (sloped, ("round over", "oak", (LEVEL, ((61, 100), ONE))), ("round over", "oak", (LEVEL, ((3, 5), ONE)))),
            (sloped, ("within over", "oak", (LEVEL, ((1, 1), ONE)), (-3, 4), (3, 4)),
             ("within over", "oak", (LEVEL, ((99, 100), ONE)), (-3, 4), (3, 4))),
            (shelf, ("still", "oak", LEVEL, EAST, HALF), ("still", "oak", LEVEL, NORTH, HALF)),
        ):
            shop = self.shop_with(iron)
            shop.wish(("round", "oak", ((10, 1), NIL)))
            self.refused(lambda: shop.wish(broken), Broken, shop, index=1)
            self.assertIsNone(shop.wish(well))
            self.refused(lambda: shop.wish(broken), Broken, shop, index=2)
        shop = self.shop_with(rows_of([0] * 11 + [Fraction(5, 4)]))
        self.refused(lambda: shop.wish(("still", "oak", LEVEL, EAST, HALF)), Broken, shop, index=0)

    def test_a_part_to_the_north_below_nought_is_within_nothing(self):
        # The needle points south at all headings, with the tangent 0.
        shop = self.shop_with(plain_iron(numbers_five(0, 2, 0, 0, 0), LEVEL))
        for wish in (("within", "oak", LEVEL, (-9, 1), (9, 1)), ("round", "oak", LEVEL),
                     ("within over", "oak", (LEVEL,), (-9, 1), (9, 1))):
            self.refused(lambda: shop.wish(wish), Broken, shop, index=0)
        # Backward is not round.
        shop = self.shop_with(plain_iron(numbers_five(0, 0, 0, 2, 0), LEVEL))
        for wish in (("round", "oak", LEVEL), ("round over", "oak", (LEVEL, PORT))):
            self.refused(lambda: shop.wish(wish), Broken, shop, index=0)

    def test_an_iron_that_breaks_a_wish(self):
        shop = self.shop_with(PLAIN)
        shop.put("elm", PLAIN)
        for wish in RIGHT:
            shop.wish(wish)
        shop.wish(("round", "elm", LEVEL))
        for iron, index in (
            (steel(1), 0), (steel(2), 0), (steel(Fraction(9, 10)), 1), (cross(Fraction(7, 10)), 2),
            (cross(Fraction(9, 5)), 0), (mixed(1), 3), (mixed(Fraction(9, 10)), 4), (POST, 5),
        ):
            self.refused(lambda: shop.put("oak", iron), Broken, shop, index=index)
        for iron in (PLAIN, steel(Fraction(1, 9))):
            self.assertIsNone(shop.put("oak", iron))
        # Only the wishes on this name are looked at.
        self.assertIsNone(shop.put("elm", steel(Fraction(9, 10))))
        self.refused(lambda: shop.put("elm", steel(1)), Broken, shop, index=6)
        for _ in range(6):
            shop.lift(0)
        self.assertIsNone(shop.put("oak", steel(7)))
        self.refused(lambda: shop.put(iron=steel(1), name="elm"), Broken, shop, index=0)

    def test_two_wrong_arguments(self):
        shop = self.shop_with(PLAIN)
        shop.wish(RIGHT[0])
        self.refused(lambda: shop.put("Oak", None), InvalidName, shop, given="Oak")
        self.refused(lambda: shop.put(iron=steel(5), name="oak "), InvalidName, shop, given="oak ")
        # An unknown name goes before a wish that would be broken, a wrong part before an unknown name.
        self.refused(lambda: shop.wish(("strong", "elm", PORT, (HUGE, 1))), UnknownName, shop, given="elm")
        wish = ("strong", "elm", PORT, NIL)
        self.refused(lambda: shop.wish(wish), InvalidWish, shop, given=wish)

    def test_lift(self):
        shop = self.shop_with(PLAIN)
        for value in STRANGE + [0, 1, -1]:
            self.refused(lambda: shop.lift(value), InvalidIndex, shop, given=value)
        for wish in RIGHT:
            shop.wish(wish)
        for value in STRANGE + [6, -1, -6, 7, HUGE, -HUGE, "0", (0,), [0], (0, 1)]:
            self.refused(lambda: shop.lift(value), InvalidIndex, shop, given=value)
        self.assertIsNone(shop.lift(2))
        self.assertEqual((shop.wishes, len(shop)), (RIGHT[:2] + RIGHT[3:], 8))
        self.assertIsNone(shop.lift(index=4))
        self.assertEqual(shop.wishes, RIGHT[:2] + RIGHT[3:5])
        self.refused(lambda: shop.lift(4), InvalidIndex, shop, given=4)
        shop.undo()
        self.assertEqual(shop.wishes, RIGHT[:2] + RIGHT[3:])
        shop.undo()
        self.assertEqual((shop.wishes, len(shop)), (RIGHT, 7))
        # What was lifted holds again after this.
        self.refused(lambda: shop.put("oak", steel(Fraction(95, 100))), Broken, shop, index=1)

    def test_the_wishes_that_are_told_are_not_the_workshop_s_own(self):
        shop = self.shop_with(PLAIN)
        told, names = shop.wishes, shop.names
        shop.wish(RIGHT[0])
        shop.put("elm", PLAIN)
        self.assertEqual((told, names), ((), ("oak",)))


class Undoing(Refusals):
    def test_to_the_begin_and_once_more(self):
        shop = Workshop()
        self.refused(shop.undo, NothingToUndo, shop)
        steps = [lambda: shop.put("oak", PLAIN), lambda: shop.put("elm", POST), lambda: shop.wish(RIGHT[0]),
                 lambda: shop.wish(RIGHT[1]), lambda: shop.lift(0), lambda: shop.drop("elm"),
                 lambda: shop.put("oak", steel(Fraction(1, 9))), lambda: shop.lift(0), lambda: shop.drop("oak")]
        seen = [shown(shop)]
        for step in steps:
            self.assertIsNone(step())
            seen.append(shown(shop))
        self.assertEqual([told[3] for told in seen], list(range(10)))
        for told in seen[:-1][::-1]:
            self.assertIsNone(shop.undo())
            self.assertEqual(shown(shop), told)
        self.refused(shop.undo, NothingToUndo, shop)

    def test_what_is_undone_is_gone(self):
        shop = Workshop()
        shop.put("oak", PLAIN)
        shop.put("elm", PLAIN)
        shop.undo()
        shop.put("ash", PLAIN)
        self.assertEqual((shop.names, len(shop)), (("ash", "oak"), 2))
        shop.undo()
        shop.undo()
        self.assertEqual((shop.names, len(shop)), ((), 0))

    def test_many_changes(self):
        shop = Workshop()
        for many in range(2000):
            shop.put("oak", steel(many))
        self.assertEqual(len(shop), 2000)
        for many in range(1999, 0, -1):
            shop.undo()
            if many % 100 == 0:
                self.assertEqual(shop.named("oak"), steel(many - 1))
        self.assertEqual(len(shop), 1)


class Stop(Exception):
    pass


class Trials(Refusals):
    def shop(self):
        shop = Workshop()
        shop.put("oak", PLAIN)
        shop.wish(RIGHT[0])
        return shop

    def test_a_block_that_ends_well(self):
        shop = self.shop()
        with shop.trial() as told:
            self.assertIs(told, shop)
            shop.put("elm", POST)
            shop.lift(0)
        self.assertEqual((shop.names, shop.wishes, len(shop)), (("elm", "oak"), (), 4))
        # Each change stays by itself.
        shop.undo()
        self.assertEqual((shop.wishes, len(shop)), (RIGHT[:1], 3))

    def test_a_block_that_ends_with_an_exception(self):
        for error in (Stop, ValueError, KeyError, KeyboardInterrupt, SystemExit, GeneratorExit):
            shop = self.shop()
            before, back = shown(shop), led_back(shop)
            raised = error("over")
            with self.assertRaises(error) as caught:
                with shop.trial():
                    shop.put("elm", POST)
                    shop.lift(0)
                    shop.drop("oak")
                    raise raised
            self.assertIs(caught.exception, raised)
            self.assertEqual((shown(shop), led_back(shop)), (before, back))

    def test_an_error_of_the_workshop_itself(self):
        shop = self.shop()
        before, back = shown(shop), led_back(shop)
        with self.assertRaises(Broken):
            with shop.trial():
                shop.put("elm", POST)
                shop.put("oak", steel(3))
        self.assertEqual((shown(shop), led_back(shop)), (before, back))

    def test_an_error_that_is_caught_within_ends_nothing(self):
        shop = self.shop()
        with shop.trial():
            shop.put("elm", POST)
            try:
                shop.put("oak", steel(3))
            except CompassError:
                pass
        self.assertEqual(shop.names, ("elm", "oak"))

    def test_a_call_alone_changes_nothing(self):
        shop = self.shop()
        before, back = shown(shop), led_back(shop)
        first, second = shop.trial(), shop.trial()
        self.assertIsNot(first, second)
        self.assertNotEqual(first, second)
        self.assertTrue(first and second)
        shop.put("elm", POST)
        # The block begins later than the call.
        with self.assertRaises(Stop):
            with first:
                shop.drop("elm")
                raise Stop()
        self.assertEqual(shop.names, ("elm", "oak"))
        shop.undo()
        self.assertEqual((shown(shop), led_back(shop)), (before, back))

    def test_leaving_a_block_otherwise(self):
        shop = self.shop()
        for _ in range(3):
            with shop.trial():
                shop.put("elm", POST)
                break

        def leave():
            with shop.trial():
                shop.put("ash", POST)
                return 7

        self.assertEqual(leave(), 7)
        self.assertEqual(shop.names, ("ash", "elm", "oak"))

    def test_one_within_another(self):
        shop = self.shop()
        before, back = shown(shop), led_back(shop)
        with self.assertRaises(Stop):
            with shop.trial():
                shop.put("elm", POST)
                within, within_back = shown(shop), led_back(shop)
                with self.assertRaises(Stop):
                    with shop.trial():
                        shop.undo()
                        shop.undo()
                        shop.put("ash", POST)
                        raise Stop()
                self.assertEqual((shown(shop), led_back(shop)), (within, within_back))
                with shop.trial():
                    shop.put("ash", POST)
                self.assertEqual(shop.names, ("ash", "elm", "oak"))
                raise Stop()
        self.assertEqual((shown(shop), led_back(shop)), (before, back))

    def test_one_value_in_several_statements(self):
        shop = self.shop()
        trial = shop.trial()
        with trial as told:
            self.assertIs(told, shop)
            shop.put("elm", POST)
        shop.put("ash", POST)
        before, back = shown(shop), led_back(shop)
        with self.assertRaises(Stop):
            with trial:
                shop.undo()
                raise Stop()
        self.assertEqual((shown(shop), led_back(shop)), (before, back))
        with self.assertRaises(Stop):
            with trial:
                shop.drop("ash")
                within, within_back = shown(shop), led_back(shop)
                with self.assertRaises(Stop):
                    with trial:
                        shop.drop("elm")
                        with trial:
                            shop.put("fir", PLAIN)
                        raise Stop()
                self.assertEqual((shown(shop), led_back(shop)), (within, within_back))
                raise Stop()
        self.assertEqual((shown(shop), led_back(shop)), (before, back))
        with trial:
            shop.drop("ash")
        self.assertEqual(shop.names, ("elm", "oak"))

    def test_undoing_what_was_done_before(self):
        shop = self.shop()
        before, back = shown(shop), led_back(shop)
        with self.assertRaises(NothingToUndo):
            with shop.trial():
                for _ in range(3):
                    shop.undo()
        self.assertEqual((shown(shop), led_back(shop)), (before, back))
        with shop.trial():
            shop.undo()
            shop.undo()
        self.assertEqual((shop.names, shop.wishes, len(shop)), ((), (), 0))
        self.refused(shop.undo, NothingToUndo, shop)

    def test_tried(self):
        shop = self.shop()
        before, back = shown(shop), led_back(shop)
        seen = []

        def failing(given):
            seen.append(given)
            given.put("elm", POST)
            given.undo()
            given.undo()
            raise Stop("over")

        with self.assertRaises(Stop):
            shop.tried(failing)
        with self.assertRaises(Stop):
            shop.tried(action=failing)
        self.assertEqual((shown(shop), led_back(shop)), (before, back))
        self.assertTrue(all(each is shop for each in seen) and len(seen) == 2)
        answer = object()

        def working(given):
            given.put("elm", POST)
            with self.assertRaises(Stop):
                given.tried(failing)
            return answer

        self.assertIs(shop.tried(working), answer)
        self.assertEqual((shop.names, len(shop)), (("elm", "oak"), 3))
        self.assertIsNone(shop.tried(lambda given: given.drop("elm")))
        self.assertEqual(shop.tried(len), 4)


class Equality(unittest.TestCase):
    def test_true_and_equal_to_itself_alone(self):
        shop, other = Workshop(), Workshop()
        self.assertIs(bool(shop), True)
        self.assertTrue(shop == shop and not shop != shop)
        self.assertTrue(shop != other and not shop == other)
        trial = shop.trial()
        for each in (shop, trial, Console(shop)):
            self.assertTrue(each == each and not each != each)
            # Whatever the other value says of it.
            for value in STRANGE + [ANY, other.trial(), shop.trial(), Console(shop)]:
                self.assertIs(each == value, False)
                self.assertIs(each != value, True)
        self.assertTrue(shop != trial and trial != shop and shop != other)
        shop.put("oak", PLAIN)
        self.assertIs(bool(shop), True)
        shop.undo()
        self.assertIs(bool(shop), True)

    def test_two_beside_one_another(self):
        shop, other = Workshop(), Workshop()
        shop.put("oak", PLAIN)
        self.assertEqual((other.names, len(other)), ((), 0))
        with self.assertRaises(Stop):
            with shop.trial():
                other.put("elm", POST)
                shop.put("ash", POST)
                with other.trial():
                    other.wish(("round", "elm", LEVEL))
                raise Stop()
        self.assertEqual((shop.names, other.names, len(other.wishes)), (("oak",), ("elm",), 1))
        with self.assertRaises(Stop):
            with shop.trial(), other.trial():
                other.undo()
                shop.undo()
                raise Stop()
        self.assertEqual((shop.names, other.names, len(other.wishes)), (("oak",), ("elm",), 1))

    def test_the_interface_stands_in_the_class_itself(self):
        for name in "put drop wish lift named undo trial tried names wishes __len__ __contains__".split():
            self.assertIn(name, vars(Workshop))
        for name in ("names", "wishes"):
            self.assertIs(type(vars(Workshop)[name]), property)
        self.assertEqual(Workshop.__module__, "ironships.workshops")

    def test_a_sea_that_is_none_makes_no_wish(self):
        with self.assertRaises(InvalidWish):
            Workshop().wish(("round over", "oak", (PORT, None)))


class Model:
    """A workshop that keeps all that it was, to compare with."""

    def __init__(self):
        self.states = [({}, ())]

    def change(self, irons, wishes):
        self.states.append((irons, wishes))

    def do(self, step):
        """The error of a step, with what it keeps, or None; then it is done."""
        irons, wishes = self.states[-1]
        verb, *told = step
        if verb == "put":
            name, iron = told
            for index, wish in enumerate(wishes):
                if wish[1] == name and not holds(wish, iron):
                    return (Broken, index)
            self.change({**irons, name: iron}, wishes)
        elif verb == "drop":
            if told[0] not in irons:
                return (UnknownName, told[0])
            named = [index for index, wish in enumerate(wishes) if wish[1] == told[0]]
            if named:
                return (InUse, named[0])
            self.change({name: irons[name] for name in irons if name != told[0]}, wishes)
        elif verb == "wish":
            if told[0][1] not in irons:
                return (UnknownName, told[0][1])
            if not holds(told[0], irons[told[0][1]]):
                return (Broken, len(wishes))
            self.change(irons, wishes + (told[0],))
        elif verb == "lift":
            if not 0 <= told[0] < len(wishes):
                return (InvalidIndex, told[0])
            self.change(irons, wishes[:told[0]] + wishes[told[0] + 1:])
        elif len(self.states) == 1:
            return (NothingToUndo, None)
        else:
            self.states.pop()
        return None


class AnyWork(unittest.TestCase):
    def step(self, stream):
        name = ("oak", "elm", "ash")[stream.whole(0, 2)]
        verb = ("put", "put", "put", "drop", "wish", "wish", "wish", "lift", "undo")[stream.whole(0, 8)]
        if verb == "put":
            numbers = [stream.ratio(1, 3) / 4 * stream.whole(0, 1) for _ in range(12)]
            return ("put", name, rows_of(numbers))
        if verb == "drop":
            return ("drop", name)
        if verb == "wish":
            bound = fraction(Fraction(stream.whole(0, 4), 4))
            wish = list(RIGHT[stream.whole(0, 5)])
            wish[1] = name
            if wish[0] in ("within", "within over"):
                wish[3:] = [(-bound[0], bound[1]), bound]
            if wish[0] == "still":
                wish[3] = (NORTH, EAST, STEER)[stream.whole(0, 2)]
            return ("wish", tuple(wish))
        return ("lift", stream.whole(-1, 3)) if verb == "lift" else ("undo",)

    def work(self, shop, model, stream, depth):
        """Some steps, and some trials; the errors that are met."""
        for _ in range(stream.whole(1, 12)):
            if depth < 3 and stream.whole(0, 5) == 0:
                kept = list(model.states)
                fails = stream.whole(0, 1) == 1
                try:
                    with shop.trial():
                        self.work(shop, model, stream, depth + 1)
                        if fails:
                            raise Stop()
                except Stop:
                    model.states = kept
            else:
                self.take(shop, model, self.step(stream))
            self.compare(shop, model)

    def take(self, shop, model, step):
        verb, *told = step
        error = None
        try:
            self.assertIsNone(vars(Workshop)[verb](shop, *copy.deepcopy(told)))
        except CompassError as caught:
            error = (type(caught), list(vars(caught).values())[0] if vars(caught) else None)
        self.assertEqual(model.do(step), error)
        self.found[(verb, error and error[0])] = True

    def compare(self, shop, model):
        irons, wishes = model.states[-1]
        self.assertEqual(shop.names, tuple(sorted(irons)))
        self.assertEqual({name: shop.named(name) for name in irons}, irons)
        self.assertEqual((shop.wishes, len(shop)), (wishes, len(model.states) - 1))
        # All wishes hold after each change.
        self.assertTrue(all(holds(wish, shop.named(wish[1])) for wish in wishes))

    def test_it_goes_as_the_model_does(self):
        self.found = {}
        for seed in range(25):
            shop, model, stream = Workshop(), Model(), Stream(seed)
            for _ in range(5):
                self.work(shop, model, stream, 0)
            while len(model.states) > 1:
                self.take(shop, model, ("undo",))
                self.compare(shop, model)
        for told in (("put", None), ("put", Broken), ("drop", None), ("drop", InUse), ("drop", UnknownName),
                     ("wish", None), ("wish", Broken), ("wish", UnknownName), ("lift", None), ("lift", InvalidIndex),
                     ("undo", None)):
            self.assertIn(told, self.found)


if __name__ == "__main__":
    unittest.main()
