"""What points [3], [4] and [5] say of arguments, tried on each function that a test names."""

import copy

from samples import STRANGE

def refused(test, call, told, error, given, kept="given"):
    """Each way to pass these arguments raises this error, which keeps what was given, or an index."""
    ways = (lambda: call(**told), lambda: call(*told.values()), lambda: call(**dict(reversed(told.items()))))
    for way in ways:
        with test.assertRaises(error) as caught:
            way()
        test.assertIs(type(caught.exception), error)
        test.assertEqual(list(vars(caught.exception)), [kept])
        test.assertIs(vars(caught.exception)[kept], given)


def index_by(is_right, most, least=1):
    """What the error of a tuple of so many elements keeps for a value that is none."""
    def index(value, told):
        if type(value) is not tuple or len(value) < least:
            return None
        return [at for at, each in enumerate(value) if at == most or not is_right(each)][0]
    return index


class Arguments:
    """To be mixed into a test case with these tables.

    CALLS: each function with the names of its parameters, in order; RIGHT: a right value for each name;
    ERRORS: the error of each name; WRONG: some values that are wrong in its place, beside the strange ones;
    LET: how those of the strange values are shown that are right in its place; INDEXES: for names whose error keeps
    an index, or None, a function of the value and of all arguments that tells it."""

    CALLS, RIGHT, ERRORS, WRONG, LET, INDEXES = (), {}, {}, {}, {}, {}

    def right(self, names):
        return {each: self.RIGHT[each] for each in names}

    def wrong_for(self, name):
        return [value for value in STRANGE if repr(value) not in self.LET.get(name, ())] + self.WRONG[name]

    def refused_at(self, call, told, name):
        if name in self.INDEXES:
            refused(self, call, told, self.ERRORS[name], self.INDEXES[name](told[name], told), "index")
        else:
            refused(self, call, told, self.ERRORS[name], told[name])

    def test_each_wrong_argument(self):
        for call, names in self.CALLS:
            for name in names:
                for value in self.wrong_for(name):
                    told = self.right(names)
                    told[name] = value
                    with self.subTest(call=call.__name__, name=name, value=repr(value)[:40]):
                        self.refused_at(call, told, name)

    def test_the_first_of_two_wrong_arguments_is_told(self):
        for call, names in self.CALLS:
            for at, name in enumerate(names):
                for later in names[at + 1:]:
                    for value in self.WRONG[name]:
                        told = self.right(names)
                        told[name], told[later] = value, self.WRONG[later][-1]
                        with self.subTest(call=call.__name__, name=name, later=later):
                            self.refused_at(call, told, name)

    def test_the_first_is_told_if_all_are_wrong(self):
        for call, names in self.CALLS:
            told = {each: self.WRONG[each][0] for each in names}
            self.refused_at(call, told, names[0])

    def test_equal_calls_return_equal_results_and_change_nothing(self):
        for call, names in self.CALLS:
            told = self.right(names)
            kept = copy.deepcopy(told)
            turned_over = dict(reversed(told.items()))
            with self.subTest(call=call.__name__):
                self.assertEqual(call(**told), call(*kept.values()))
                self.assertEqual(call(**told), call(**turned_over))
                self.assertEqual(told, kept)

    def test_the_functions_are_defined_where_they_are_listed(self):
        for call, names in self.CALLS:
            self.assertEqual(call.__module__, self.MODULE)
            self.assertEqual(call.__code__.co_varnames[:call.__code__.co_argcount], names)
