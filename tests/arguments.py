"""What points [3], [4] and [5] say of arguments, tried on each function that a test names."""

import copy

from samples import STRANGE

def refused(test, call, told, error, given):
    """Each way to pass these arguments raises this error with what was given."""
    ways = (lambda: call(**told), lambda: call(*told.values()), lambda: call(**dict(reversed(told.items()))))
    for way in ways:
        with test.assertRaises(error) as caught:
            way()
        test.assertIs(type(caught.exception), error)
        test.assertEqual(list(vars(caught.exception)), ["given"])
        test.assertIs(caught.exception.given, given)


class Arguments:
    """To be mixed into a test case with these tables.

    CALLS: each function with the names of its parameters, in order; RIGHT: a right value for each name;
    ERRORS: the error of each name; WRONG: some values that are wrong in its place, beside the strange ones;
    LET: how those of the strange values are shown that are right in its place."""

    CALLS, RIGHT, ERRORS, WRONG, LET = (), {}, {}, {}, {}

    def right(self, names):
        return {each: self.RIGHT[each] for each in names}

    def wrong_for(self, name):
        return [value for value in STRANGE if repr(value) not in self.LET.get(name, ())] + self.WRONG[name]

    def test_each_wrong_argument(self):
        for call, names in self.CALLS:
            for name in names:
                for value in self.wrong_for(name):
                    told = self.right(names)
                    told[name] = value
                    with self.subTest(call=call.__name__, name=name, value=repr(value)[:40]):
                        refused(self, call, told, self.ERRORS[name], value)

    def test_the_first_of_two_wrong_arguments_is_told(self):
        for call, names in self.CALLS:
            for at, name in enumerate(names):
                for later in names[at + 1:]:
                    for value in self.WRONG[name]:
                        told = self.right(names)
                        told[name], told[later] = value, self.WRONG[later][-1]
                        with self.subTest(call=call.__name__, name=name, later=later):
                            refused(self, call, told, self.ERRORS[name], value)

    def test_the_first_is_told_if_all_are_wrong(self):
        for call, names in self.CALLS:
            told = {each: self.WRONG[each][0] for each in names}
            refused(self, call, told, self.ERRORS[names[0]], self.WRONG[names[0]][0])

    def test_equal_calls_return_equal_results_and_change_nothing(self):
        for call, names in self.CALLS:
            told = self.right(names)
            kept = copy.deepcopy(told)
            turned_over = dict(reversed(told.items()))
            with self.subTest(call=call.__name__):
                self.assertEqual(call(**told), call(*kept.values()))
                self.assertEqual(call(**told), call(**turned_over))
                self.assertEqual(told, kept)

    def test_the_functions_are_defined_where_they_are_listed(self):
        for call, names in self.CALLS:
            self.assertEqual(call.__module__, self.MODULE)
            self.assertEqual(call.__code__.co_varnames[:call.__code__.co_argcount], names)
