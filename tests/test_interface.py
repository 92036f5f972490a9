"""The interface: everything that it lists stands under its name, in the file under which it is listed."""

import importlib
import inspect
import os
import unittest

import ironships
from ironships import errors

FUNCTIONS = {
    "numbers": "is_fraction(value) is_surd(value) surd_of(part,factor,fraction) compare(surd,other) near(surd,many)",
    "headings": """is_heading(value) is_course(value) heading_of(half) half_of(heading) turned(heading,other)
        mirrored(heading) quarter_of(heading) order_of(heading,other) course_of(heading) heading_along(course)""",
    "irons": """is_iron(value) is_piece(value) is_place(value) is_five(value) strength_of(iron) five_of(iron,place)
        plain_iron(five,place) joined(iron,piece)""",
    "needles": """north_part(five,heading) east_part(five,heading) force_square(five,heading)
        deviation_word(five,heading) tangent_at(five,heading) course_at(five,heading)""",
    "rounds": """round_word(five) round_numbers(five) headings_of(five,course) dead_headings(five) twin_headings(five)
        unshown_course(five)""",
    "waves": """is_wave(value) wave_at(wave,heading) mixed(wave,other,fraction) turned_wave(wave,heading) zeros_of(wave)
        wave_row(wave) zero_near(wave,index,many) heading_with(wave,sign) north_wave(five) east_wave(five)
        force_wave(five)""",
    "bounds": """is_ahead(five) is_within(five,low,high) breaking_heading(five,low,high) greatest_tangent(five,many)
        least_tangent(five,many) is_as_strong(five,force) weak_heading(five,force) least_force(five,many)
        greatest_force(five,many) zero_words(five) plain_many(five) deviates_less(five,other)
        greater_heading(five,other)""",
    "alike": "are_alike(five,other) parting_heading(five,other) agreeing_many(five,other)",
    "heels": """heeled(iron,half) heel_waves(iron,place,heading) is_within_heels(iron,place,heading,half,low,high)
        is_still(iron,place,heading,half) heel_rate(iron,place,heading) righting_magnet(iron,place,heading)""",
    "seas": """is_sea(value) spot_of(place) place_between(place,other,fraction) sea_shares(sea,place)
        parting_row(sea,place) word_over(iron,sea) is_within_over(iron,sea,low,high) round_shares(iron,place,other)
        has_none_anywhere(iron) are_alike_anywhere(iron,other) soft_and_hard(five,place,other,second)""",
    "boxes": """is_box(value) built(iron,box,counts) fewest_pieces(iron,place,box,low,high)
        clearing_counts(iron,box)""",
    "notes": """is_reading(value) keeps(five,reading) fits(five,readings) any_five(readings) clash_weights(readings)
        are_clash_weights(readings,value) clashing(readings) number_range(readings,index) settled_numbers(readings)
        reading_word(readings,reading) needless_readings(readings) reading_of(five,heading)""",
    "checker": "accepts(claim,paper)",
    "certificates": """certify_word(five) certify_twins(five) certify_within(five,low,high) certify_alike(five,other)
        certify_less(five,other) certify_sea(sea,place) certify_over(iron,sea) certify_readings(readings)
        certify_reading(readings,reading) certify_box(iron,box)""",
}
CLASSES = {
    ("workshops", "Workshop"): """__init__() put(name,iron) drop(name) wish(wish) lift(index) named(name) undo() trial()
        tried(action) __len__()""",
    ("consoles", "Console"): "__init__(shop) say(line)",
}


def parts(told):
    """The name and the parameters of each call that is told."""
    for each in told.split():
        name, parameters = each.rstrip(")").split("(")
        yield name, [parameter for parameter in parameters.split(",") if parameter]


class Interface(unittest.TestCase):
    def test_functions(self):
        for file, told in FUNCTIONS.items():
            module = importlib.import_module(f"ironships.{file}")
            for name, parameters in parts(told):
                with self.subTest(file=file, name=name):
                    function = vars(module)[name]
                    self.assertEqual(function.__module__, module.__name__)
                    self.assertEqual(list(inspect.signature(function).parameters), parameters)

    def test_classes(self):
        for (file, name), told in CLASSES.items():
            module = importlib.import_module(f"ironships.{file}")
            kind = vars(module)[name]
            self.assertEqual(kind.__module__, module.__name__)
            for method, parameters in parts(told):
                with self.subTest(kind=name, method=method):
                    self.assertEqual(list(inspect.signature(vars(kind)[method]).parameters)[1:], parameters)

    def test_the_folder_holds_nothing_else(self):
        folder = os.path.dirname(ironships.__file__)
        self.assertTrue(all(name.endswith(".py") or name == "__pycache__" for name in os.listdir(folder)))

    def test_errors_stand_under_the_base_alone(self):
        for name, kind in vars(errors).items():
            if isinstance(kind, type) and name != "CompassError":
                self.assertEqual(kind.__bases__, (errors.CompassError,))


if __name__ == "__main__":
    unittest.main()
