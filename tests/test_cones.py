"""The sums of rows with weights from 0 on, on which seas and readings rest."""

import unittest
from fractions import Fraction

from ironships.cones import Sums
from samples import HUGE, NIL, ONE, Stream, fraction, number


def rows_of_numbers(rows):
    return [tuple(fraction(each) for each in row) for row in rows]


def product(row, other):
    return sum(number(each) * number(more) for each, more in zip(row, other))


class Weights(unittest.TestCase):
    def check(self, rows, target):
        """Whether there are weights; these, or the row that parts, are looked at."""
        rows, (target,) = rows_of_numbers(rows), rows_of_numbers([target])
        sums = Sums(rows, target, [NIL] * len(rows))
        if sums.is_reached:
            self.assertEqual(len(sums.weights), len(rows))
            self.assertTrue(all(number(weight) >= 0 for weight in sums.weights))
            for at, aim in enumerate(target):
                self.assertEqual(product(sums.weights, [row[at] for row in rows]), number(aim))
        else:
            self.assertTrue(all(product(sums.parting, row) >= 0 for row in rows))
            self.assertLess(product(sums.parting, target), 0)
        return sums.is_reached

    def test_by_hand(self):
        for rows, target, told in (
            ([], (0, 0), True), ([], (0, 1), False), ([], (-1, 0), False), ([(1, 0)], (2, 0), True),
            ([(1, 0)], (-2, 0), False), ([(1, 0)], (0, 0), True), ([(0, 0)], (0, 0), True), ([(0, 0)], (0, 1), False),
            ([(1, 1), (1, -1)], (3, 2), True), ([(1, 1), (1, -1)], (3, 3), True), ([(1, 1), (1, -1)], (3, 4), False),
            ([(1, 1), (1, -1)], (3, 3 + Fraction(1, HUGE)), False), ([(1, 1), (1, -1), (-1, 0)], (-7, 99), True),
            ([(1, 1), (2, 2), (-1, -1)], (-5, -5), True), ([(1, 1), (2, 2), (-1, -1)], (-5, -4), False),
            ([(Fraction(1, 3), Fraction(1, 7))], (Fraction(7, 5), Fraction(3, 5)), True),
        ):
            with self.subTest(rows=rows, target=target):
                self.assertIs(self.check(rows, target), told)

    def test_one_of_both_is_there(self):
        stream, told = Stream(1), []
        for _ in range(600):
            size, many = stream.whole(1, 6), stream.whole(0, 9)
            rows = [[stream.ratio(3, 2) for _ in range(size)] for _ in range(many)]
            target = [stream.ratio(3, 2) * stream.whole(0, 1) for _ in range(size)]
            told.append(self.check(rows, target))
        self.assertGreater(told.count(True), 100)
        self.assertGreater(told.count(False), 100)

    def test_sums_are_found_again(self):
        stream = Stream(2)
        for _ in range(200):
            size, many = stream.whole(1, 6), stream.whole(1, 9)
            rows = [[stream.ratio(3, 2) for _ in range(size)] for _ in range(many)]
            weights = [Fraction(stream.whole(0, 4), stream.whole(1, 5)) for _ in rows]
            target = [sum(weight * row[at] for weight, row in zip(weights, rows)) for at in range(size)]
            self.assertIs(self.check(rows, target), True)


class Costs(unittest.TestCase):
    def test_by_hand(self):
        rows, costs = rows_of_numbers([(1, 0), (0, 1), (1, 1)]), [ONE, ONE, (3, 1)]
        self.assertEqual(Sums(rows, ((2, 1), (3, 1)), costs).cost, (5, 1))
        costs[2] = (3, 2)
        sums = Sums(rows, ((2, 1), (3, 1)), costs)
        self.assertEqual((sums.cost, sums.weights), ((4, 1), (NIL, ONE, (2, 1))))
        # The second row and the opposite one make up nothing, and the cost falls with them.
        rows, costs = rows_of_numbers([(1, 0), (0, 1), (0, -1)]), [ONE, NIL, (-1, 9)]
        self.assertIsNone(Sums(rows, (ONE, NIL), costs).cost)
        costs[1] = (1, 9)
        self.assertEqual(Sums(rows, (ONE, (-1, 1)), costs).cost, (8, 9))

    def test_no_other_weights_cost_less(self):
        stream, many = Stream(3), 0
        for _ in range(300):
            rows = rows_of_numbers([[stream.ratio(3, 2) for _ in range(3)] for _ in range(6)])
            costs = [fraction(stream.ratio(4, 3)) for _ in rows]
            target = tuple(fraction(stream.ratio(3, 2)) for _ in range(3))
            sums = Sums(rows, target, costs)
            if not sums.is_reached or sums.cost is None:
                continue
            many += 1
            self.assertEqual(product(sums.weights, costs), number(sums.cost))
            # A little less cannot be had: with the cost as one more number there is no such sum, at any price above.
            more = [row + (cost,) for row, cost in zip(rows, costs)] + [(NIL, NIL, NIL, ONE)]
            for gap, told in ((0, True), (Fraction(1, 10 ** 30), False), (1, False), (-1, True)):
                aim = target + (fraction(number(sums.cost) - gap),)
                self.assertIs(Sums(more, aim, [NIL] * len(more)).is_reached, told)
        self.assertGreater(many, 50)


if __name__ == "__main__":
    unittest.main()
