"""The interface of consoles.py, with what points [3], [4], [5] and [45] say of lines and of what is refused."""

import re
import sys
import unittest
from fractions import Fraction
from math import gcd

from ironships.consoles import Console
from ironships.errors import (
    Broken, CompassError, InUse, InvalidPhrase, NotAWorkshop, NothingToUndo, UnknownName,
)
from ironships.irons import five_of, is_iron
from ironships.needles import tangent_at
from ironships.rounds import round_word
from ironships.workshops import Workshop
from samples import (
    HALF, HUGE, LEVEL, NIL, NORTH, ONE, POST, SOUTH, STEER, STRANGE, Stream, five_of as numbers_five, fraction,
    heading_of_half, rows_of,
)

HULL = rows_of([Fraction(1, 5), 0, Fraction(1, 10), 2, 0, Fraction(-1, 5), 0, -1, 0, 0, Fraction(1, 5), 3])
HULL_TEXT = "1/5 0/1 1/10 2/1; 0/1 -1/5 0/1 -1/1; 0/1 0/1 1/5 3/1"
HOME = ((10, 1), (20, 1))
WHOLE = "(?:0|-?[1-9][0-9]*)"
ONE_FRACTION = f"{WHOLE}/[1-9][0-9]*"
NAME = "[a-z]{1,12}"
ROW = f"{ONE_FRACTION} {ONE_FRACTION} {ONE_FRACTION} {ONE_FRACTION}"
PLACE = f"{ONE_FRACTION} {ONE_FRACTION}"
FORMS = [re.compile(form) for form in (
    f"put {NAME}: {ROW}; {ROW}; {ROW}", f"drop {NAME}", "undo", "names", f"iron {NAME}", f"five {NAME}: {PLACE}",
    f"word {NAME}: {PLACE}", f"tangent {NAME}: {PLACE}; (?:{ONE_FRACTION}|south)",
)]


def text(pair):
    return f"{pair[0]}/{pair[1]}"


def row_text(row):
    return " ".join(text(each) for each in row)


def is_phrase(line):
    """Whether a string is of one of the forms, its fractions being reduced and making a place, or an iron."""
    if not any(form.fullmatch(line) for form in FORMS):
        return False
    told = re.findall(f"({WHOLE})/([1-9][0-9]*)", line)
    numbers = [(int(top), int(bottom)) for top, bottom in told]
    if any(gcd(top, bottom) != 1 for top, bottom in numbers):
        return False
    if line.startswith("put"):
        return is_iron((tuple(numbers[:4]), tuple(numbers[4:8]), tuple(numbers[8:])))
    return not numbers or numbers[0][0] > 0


def console_with(**irons):
    shop = Workshop()
    for name, iron in irons.items():
        shop.put(name, iron)
    return Console(shop), shop


class Making(unittest.TestCase):
    def test_what_is_no_workshop(self):
        for value in STRANGE + [Workshop, [Workshop()], (Workshop(),), console_with()[0]]:
            for call in (lambda: Console(value), lambda: Console(shop=value)):
                with self.assertRaises(NotAWorkshop) as caught:
                    call()
                self.assertEqual(list(vars(caught.exception)), ["given"])
                self.assertIs(caught.exception.given, value)

    def test_two_consoles_of_one_workshop(self):
        first, shop = console_with()
        second = Console(shop=shop)
        first.say(f"put oak: {HULL_TEXT}")
        self.assertEqual((second.say("names"), len(shop)), ("oak", 1))
        self.assertTrue(first == first and first != second and not first == second)
        self.assertTrue(first and second)
        self.assertEqual((second.say("undo"), first.say("names")), ("done", "none"))

    def test_the_interface_stands_in_the_class_itself(self):
        self.assertIn("say", vars(Console))
        self.assertEqual(Console.__module__, "ironships.consoles")


class Answers(unittest.TestCase):
    def test_put(self):
        console, shop = console_with()
        self.assertEqual(console.say(f"put oak: {HULL_TEXT}"), "done")
        self.assertEqual((shop.named("oak"), shop.names, len(shop)), (HULL, ("oak",), 1))
        self.assertEqual(console.say(line=f"put a: {HULL_TEXT}"), "done")
        self.assertEqual(console.say(f"put abcdefghijkl: {HULL_TEXT}"), "done")
        # In the place of another one, and the same once more.
        plain = "; ".join(["0/1 0/1 0/1 0/1"] * 3)
        for many in (4, 5):
            self.assertEqual(console.say(f"put oak: {plain}"), "done")
            self.assertEqual((shop.named("oak"), len(shop)), (rows_of([0] * 12), many))

    def test_names_that_are_verbs(self):
        console, shop = console_with()
        for name in ("put", "drop", "undo", "names", "iron", "five", "word", "tangent", "south", "none", "done"):
            self.assertEqual(console.say(f"put {name}: {HULL_TEXT}"), "done")
            self.assertEqual(console.say(f"iron {name}"), HULL_TEXT)
            self.assertEqual(console.say("names"), name)
            self.assertEqual(console.say(f"drop {name}"), "done")

    def test_drop_and_undo(self):
        console, shop = console_with(oak=HULL, elm=POST)
        self.assertEqual(console.say("drop oak"), "done")
        self.assertEqual((shop.names, len(shop)), (("elm",), 3))
        for names in (("elm", "oak"), ("oak",), ()):
            self.assertEqual(console.say("undo"), "done")
            self.assertEqual(shop.names, names)
        with self.assertRaises(NothingToUndo):
            console.say("undo")

    def test_undo_of_what_was_no_line(self):
        console, shop = console_with(oak=HULL)
        shop.wish(("round", "oak", HOME))
        self.assertEqual((console.say("undo"), shop.wishes), ("done", ()))

    def test_names(self):
        console, shop = console_with()
        self.assertEqual(console.say("names"), "none")
        for name in ("oak", "a", "zz", "elm"):
            shop.put(name, POST)
        self.assertEqual(console.say("names"), "a elm oak zz")

    def test_iron(self):
        console, _ = console_with(oak=HULL, elm=POST)
        self.assertEqual(console.say("iron oak"), HULL_TEXT)
        self.assertEqual(console.say("iron elm"), "0/1 0/1 0/1 0/1; 0/1 0/1 0/1 0/1; 0/1 0/1 0/1 1/1")

    def test_what_the_needle_does(self):
        console, _ = console_with(oak=HULL)
        self.assertEqual(console.say("five oak: 10/1 20/1"), "0/1 2/5 -1/10 1/5 0/1")
        self.assertEqual(console.say("word oak: 10/1 20/1"), "round")
        self.assertEqual(console.say("word oak: 1/1 20/1"), "swings")
        self.assertEqual(console.say("tangent oak: 10/1 20/1; 0/1"), "-1/16")
        self.assertEqual(console.say("tangent oak: 10/1 20/1; south"), "1/8")
        self.assertEqual(console.say("five oak: 1/2 -3/4"), row_text(five_of(HULL, (HALF, (-3, 4)))))

    def test_no_tangent(self):
        # K is 0 at south, L is not or is.
        for a in (1, 0):
            iron = ((NIL, (-a, 1), NIL, ONE), ((a, 1), NIL, NIL, NIL), (NIL,) * 4)
            console, _ = console_with(oak=iron)
            self.assertEqual(console.say("tangent oak: 1/1 0/1; south"), "none")
            self.assertEqual(console.say("tangent oak: 1/1 0/1; 0/1"), text((a, 2) if a else NIL))
        # A part to the north below 0 has a tangent.
        console, _ = console_with(oak=rows_of([0, 0, 0, 2] + [0] * 8))
        self.assertEqual(console.say("tangent oak: 1/1 0/1; south"), "0/1")

    def test_any_irons_places_and_headings(self):
        stream = Stream(1)
        for _ in range(80):
            iron, place, half = stream.iron(), stream.place(), fraction(stream.ratio())
            console, shop = console_with()
            written = "; ".join(row_text(row) for row in iron)
            self.assertEqual(console.say(f"put elm: {written}"), "done")
            self.assertEqual((shop.named("elm"), console.say("iron elm")), (iron, written))
            five, at = five_of(iron, place), row_text(place)
            self.assertEqual(console.say(f"five elm: {at}"), row_text(five))
            self.assertEqual(console.say(f"word elm: {at}"), round_word(five))
            for told, heading in ((text(half), heading_of_half(Fraction(*half))), ("south", SOUTH)):
                tangent = tangent_at(five, heading)
                self.assertEqual(console.say(f"tangent elm: {at}; {told}"),
                                 "none" if tangent is None else text(tangent))

    def test_unknown_names_in_each_form(self):
        console, shop = console_with(oak=HULL)
        for line in (
            "drop {}", "iron {}", "five {}: 1/1 0/1", "word {}: 1/1 0/1", "tangent {}: 1/1 0/1; 0/1",
            "tangent {}: 1/1 0/1; south",
        ):
            for name in ("elm", "oakk", "oa", "abcdefghijkl", "z"):
                with self.assertRaises(UnknownName) as caught:
                    console.say(line.format(name))
                self.assertEqual(vars(caught.exception), {"given": name})
        self.assertEqual((shop.names, len(shop)), (("oak",), 1))

    def test_errors_of_the_workshop(self):
        console, shop = console_with(elm=POST, oak=HULL)
        shop.wish(("round", "elm", HOME))
        shop.wish(("round", "oak", HOME))
        for line, error, index in (
            ("put oak: 0/1 0/1 0/1 20/1; 0/1 0/1 0/1 0/1; 0/1 0/1 0/1 0/1", Broken, 1), ("drop oak", InUse, 1),
            ("drop elm", InUse, 0),
        ):
            with self.assertRaises(error) as caught:
                console.say(line)
            self.assertEqual(vars(caught.exception), {"index": index})
        self.assertEqual((shop.named("oak"), len(shop)), (HULL, 4))

    def test_asking_changes_nothing(self):
        console, shop = console_with(oak=HULL)
        for line in ("names", "iron oak", "five oak: 1/1 0/1", "word oak: 1/1 0/1", "tangent oak: 1/1 0/1; 0/1"):
            self.assertEqual(console.say(line), console.say(line=line))
            self.assertIs(type(console.say(line)), str)
        self.assertEqual(len(shop), 1)


RIGHT_LINES = (
    f"put oak: {HULL_TEXT}", "drop oak", "undo", "names", "iron oak", "five oak: 10/1 -20/3", "word oak: 10/1 0/1",
    "tangent oak: 10/1 20/1; -1/2", "tangent oak: 10/1 20/1; south",
)


class Lines(unittest.TestCase):
    def refused(self, line, console, shop):
        before = (shop.names, shop.wishes, len(shop))
        for call in (lambda: console.say(line), lambda: console.say(line=line)):
            with self.assertRaises(InvalidPhrase) as caught:
                call()
            self.assertEqual(list(vars(caught.exception)), ["given"])
            self.assertIs(caught.exception.given, line)
        self.assertEqual((shop.names, shop.wishes, len(shop)), before)

    def test_what_is_no_text(self):
        console, shop = console_with(oak=HULL)
        for value in STRANGE + [b"names", ["names"], ("names",), b"undo", ("undo", None, None), 7, {"names": 1}]:
            self.refused(value, console, shop)

    def test_lines_of_no_form(self):
        console, shop = console_with(oak=HULL)
        for line in (
            "", " ", "name", "names oak", "undo undo", "Names", "NAMES", "names:", "names: oak", "undo: 1/1", "drop",
            "drop ", "iron", "iron ", "drop oak elm", "drop oak:", "drop oak: ", "iron oak: 1/1 0/1", "dropoak",
            "say oak", "five oak", "word oak", "tangent oak", "put oak", "five oak:", "five oak: ", "five: 1/1 0/1",
            "five : 1/1 0/1", "five oak 1/1 0/1", "five oak:1/1 0/1", "five oak : 1/1 0/1", "five oak: 1/1",
            "five oak: 1/1 0/1 0/1", "five oak: 1/1 0/1;", "five oak: 1/1; 0/1", "five oak: 1/1 0/1; 0/1",
            "word oak: 1/1, 0/1", "tangent oak: 1/1 0/1", "tangent oak: 1/1 0/1;", "tangent oak: 1/1 0/1; ",
            "tangent oak: 1/1 0/1; north", "tangent oak: 1/1 0/1; South", "tangent oak: 1/1 0/1; None",
            "tangent oak: 1/1 0/1; 1", "tangent oak: 1/1 0/1 0/1", "tangent oak: 1/1 0/1 south",
            "tangent oak: 1/1 0/1;0/1", "tangent oak: 1/1 0/1; 0/1; 0/1", "tangent oak: south; 1/1 0/1",
            "tangent oak: 1/1 0/1; south south", "tangent oak: south", "five Oak: 1/1 0/1", "drop abcdefghijklm",
            "drop oak1", "drop o-k", "iron o k", "None", "put: 1/1", f"put oak; {HULL_TEXT}", f"put oak {HULL_TEXT}",
            f"put oak: {HULL_TEXT};", f"put oak: {HULL_TEXT}; 0/1 0/1 0/1 0/1", f"put oak: {HULL_TEXT} 0/1",
            f"put oak: ({HULL_TEXT})", f"put oak:  {HULL_TEXT}", f"put OAK: {HULL_TEXT}", f"five oak: {HULL_TEXT}",
            "put oak: 10/1 20/1", "wish oak", "word oak: 1/1 0/1: 0/1", "names; undo", f"put oak: elm: {HULL_TEXT}",
        ):
            with self.subTest(line):
                self.assertFalse(is_phrase(line))
                self.refused(line, console, shop)

    def test_fractions_that_are_none(self):
        console, shop = console_with(oak=HULL)
        for wrong in (
            "2/4", "0/2", "-2/4", "1/0", "0/0", "1/-1", "-1/-1", "+1/1", "1/+1", "01/1", "1/01", "-0/1", "00/1", "1",
            "1/", "/1", "/", "1//1", "1/1/1", "1 /1", "1/ 1", "--1/1", "1_0/1", "1.0/1", "1e3/1", "0x1/1", "a/1",
            "\u0661/1", "1/\u0661", "\u00b2/1", "- 1/1", "-/1", "", "1/1\n", "nil", "south", "10/5", "1\t/1", "1-/1",
            "9" * 70 + "/" + "9" * 70, "0" * 65 + "1/1", "1/0" + "1" * 64,
        ):
            for line in (
                f"five oak: {wrong} 1/1", f"five oak: 1/1 {wrong}", f"word oak: {wrong} 1/1",
                f"tangent oak: 1/1 {wrong}; 0/1", f"put oak: {wrong}{HULL_TEXT[3:]}", f"put oak: {HULL_TEXT[:-3]}{wrong}",
            ) + ((f"tangent oak: 1/1 0/1; {wrong}",) if wrong != "south" else ()):
                with self.subTest(line):
                    self.assertFalse(is_phrase(line))
                    self.refused(line, console, shop)

    def test_two_blanks_and_blanks_at_an_end(self):
        console, shop = console_with(oak=HULL)
        for line in RIGHT_LINES:
            self.assertTrue(is_phrase(line))
            for end in (" ", "\n", "\t", "\r", "\r\n", ";", ":", "\x00", "\u00a0", "."):
                self.refused(line + end, console, shop)
                self.refused(end + line, console, shop)
            for at, sign in enumerate(line):
                if sign == " ":
                    for other in ("  ", "", "\t", "\n", "\u00a0", "_", " \t", "\u2003"):
                        self.refused(line[:at] + other + line[at + 1:], console, shop)

    def test_no_iron_and_no_place(self):
        console, shop = console_with(oak=HULL)
        for line in (
            "put oak: -2/1 0/1 0/1 0/1; 0/1 0/1 0/1 0/1; 0/1 0/1 0/1 0/1",
            "put oak: -3/2 0/1 0/1 0/1; 0/1 -1/2 0/1 0/1; 0/1 0/1 0/1 0/1",
            "put elm: 0/1 0/1 0/1 0/1; 0/1 -7/1 0/1 0/1; 0/1 0/1 0/1 0/1",
            "five oak: 0/1 1/1", "five oak: -1/1 1/1", "word oak: 0/1 0/1", "word elm: -1/3 2/1",
            "tangent oak: 0/1 1/1; 0/1", "tangent elm: -5/1 1/1; south",
        ):
            self.refused(line, console, shop)

    def test_a_wrong_line_goes_ahead_of_all_else(self):
        console, shop = console_with(oak=HULL)
        shop.wish(("round", "oak", HOME))
        for line in ("drop elm ", "drop oak ", "iron elm: ", "five elm: 0/1 1/1", "undo ",
                     "put oak: 0/1 0/1 0/1 20/1; 0/1 0/1 0/1 0/1; 0/1 0/1 0/1 0/2"):
            self.refused(line, console, shop)

    def test_lines_with_one_sign_changed(self):
        stream, told = Stream(2), {True: 0, False: 0}
        signs = " :;/-+01259abzsouthAZ._\n"
        for _ in range(2500):
            line = RIGHT_LINES[stream.whole(0, len(RIGHT_LINES) - 1)]
            for _ in range(stream.whole(1, 2)):
                at, sign = stream.whole(0, len(line)), signs[stream.whole(0, len(signs) - 1)]
                line = line[:at] + sign * stream.whole(0, 1) + line[at + stream.whole(0, 1):]
            console, shop = console_with(oak=HULL)
            told[is_phrase(line)] += 1
            if is_phrase(line):
                try:
                    self.assertIs(type(console.say(line)), str)
                except CompassError as error:
                    self.assertIs(type(error), UnknownName)
            else:
                self.refused(line, console, shop)
        self.assertGreater(min(told.values()), 300)


class LongNumbers(unittest.TestCase):
    def setUp(self):
        self.limit = sys.get_int_max_str_digits()

    def tearDown(self):
        sys.set_int_max_str_digits(self.limit)

    def test_texts_of_long_numbers(self):
        console, shop = console_with()
        for many in (1, 18, 19, 20, 63, 64, 65, 127, 128, 129, 400, 3900):
            for number in (10 ** many, 10 ** many - 1, 10 ** many + 1, 7 * 10 ** many // 9, 10 ** many + 10 ** (many // 2)):
                for told in (number, -number):
                    line = f"put oak: 0/1 0/1 0/1 {told}/1; 0/1 0/1 0/1 0/1; 0/1 0/1 0/1 0/1"
                    self.assertEqual(console.say(line), "done")
                    self.assertEqual(shop.named("oak")[0][3], (told, 1))
                    self.assertEqual("put oak: " + console.say("iron oak"), line)
                # The last one that was put, B, is the opposite of the place's H.
                self.assertEqual(console.say(f"five oak: {number}/1 1/{number}"), "0/1 -1/1 0/1 0/1 0/1")

    def test_answers_that_python_would_not_write(self):
        iron = rows_of([Fraction(HUGE + at, HUGE - at - 1) for at in range(12)])
        place, half = ((HUGE, HUGE + 2), (-1, HUGE)), (HUGE, 3)
        console, shop = console_with(oak=iron)
        five = five_of(iron, place)
        tangent = tangent_at(five, heading_of_half(Fraction(*half)))
        line = f"tangent oak: {row_text(place)}; {text(half)}"
        answers = console.say(line), console.say(f"five oak: {row_text(place)}")
        self.assertGreater(len(answers[0]), 2 * self.limit)
        sys.set_int_max_str_digits(0)
        self.assertEqual(answers, (text(tangent), row_text(five)))
        sys.set_int_max_str_digits(640)
        self.assertEqual((console.say(line), console.say(f"five oak: {row_text(place)}")), answers)
        # And what is written so is read again.
        long = answers[0].split("/")[1]
        line = f"put oak: 0/1 0/1 0/1 1/{long}; 0/1 0/1 0/1 0/1; 0/1 0/1 0/1 0/1"
        self.assertEqual(console.say(line), "done")
        self.assertEqual(shop.named("oak")[0][3], (1, abs(tangent[1])))
        self.assertEqual("put oak: " + console.say("iron oak"), line)


class ByHand(unittest.TestCase):
    def test_the_five_of_a_plain_iron(self):
        console, _ = console_with()
        console.say("put oak: 1/4 -1/3 0/1 1/2; 2/3 -1/4 0/1 -1/5; 0/1 0/1 0/1 0/1")
        # m is 1: A = (2 / 3 + 1 / 3) / 2, B = 1 / 2 / 2, C = - 1 / 5 / 2, D = (1 / 4 + 1 / 4) / 2, E = (2 / 3 - 1 / 3) / 2.
        self.assertEqual(console.say("five oak: 2/1 7/1"), "1/2 1/4 -1/10 1/4 1/6")
        five = numbers_five(Fraction(1, 2), Fraction(1, 4), Fraction(-1, 10), Fraction(1, 4), Fraction(1, 6))
        self.assertEqual(console.say("tangent oak: 2/1 7/1; 1/2"), text(tangent_at(five, STEER)))
        self.assertEqual(console.say("tangent oak: 2/1 7/1; 0/1"), text(tangent_at(five, NORTH)))
        self.assertEqual(five_of(POST, LEVEL), (NIL,) * 5)


if __name__ == "__main__":
    unittest.main()
