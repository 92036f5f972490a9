"""Sums of rows of fractions with weights from 0 on: told exactly, by the simplex method over whole numbers."""

from ironships.ratios import common_bottom, reduced, scaled


class Sums:
    """Weights from 0 on with which rows add up to a target, at the least cost, if there are any.

    is_reached: whether there are some; weights: one for each row, in their order; cost: the sum of the weights, each
    times the cost of its row, None if it has no end below; parting: a row whose product with each row is from 0 on,
    that with the target below 0. By Farkas there is such a row just if there are no weights; else it tells nothing."""

    def __init__(self, rows, target, costs):
        columns = [row + (cost,) for row, cost in zip(rows, costs)]
        self.bottoms = [common_bottom(column) for column in columns]
        self.target_bottom = common_bottom(target)
        self._begin([scaled(column, bottom) for column, bottom in zip(columns, self.bottoms)],
                    scaled(target, self.target_bottom))
        has_end = self._go_down()
        self.is_reached = self.lacks[-1] == 0
        self.weights = self._told_weights()
        self.cost = reduced(-self.costs[-1], self.scale * self.target_bottom) if has_end else None
        self.parting = tuple([(sign * number, 1) for sign, number in zip(self.signs, self._prices())])

    def _begin(self, columns, target):
        """What there is to begin with: instead of weights there is a lack of each number of the target.

        Each line tells how much there is of a lack or of a weight, by its last number; its other numbers, times those
        of a row, tell how fast this falls as the weight of the row grows. The two lines of the lacks all together and
        of the costs are to fall, the lacks first. All numbers of the lines are over the scale."""
        self.signs = [-1 if aim < 0 else 1 for aim in target]
        self.columns = [[sign * number for sign, number in zip(self.signs, column)] for column in columns]
        self.fees = [column[-1] for column in columns]
        self.scale = 1
        self.lines = []
        for at, aim in enumerate(target):
            self.lines.append([1 if other == at else 0 for other in range(len(target))] + [abs(aim)])
        self.lacks = [0 for _ in target] + [-sum([abs(aim) for aim in target])]
        self.costs = [0 for _ in target] + [0]
        # Which weight a line tells; a number beyond the rows stands for a lack.
        self.told = [len(columns) + at for at in range(len(target))]

    def _go_down(self):
        """Lets lacks and costs fall as far as they can; whether they have an end.

        The first row that may and the first line that has to are taken each time (Bland's rule), so that this ends."""
        while True:
            index = self._entering()
            if index is None:
                return True
            falls = [_product(line, self.columns[index]) for line in self.lines]
            at = self._leaving(falls)
            if at is None:
                return False
            self._exchange(at, index, falls)

    def _prices(self):
        """What a row's numbers are to be taken times to tell how fast the lacks fall with its weight."""
        return [number - self.scale for number in self.lacks[:-1]]

    def _entering(self):
        """The first row with which lacks or costs fall; None if there is none."""
        prices = self._prices()
        for index, column in enumerate(self.columns):
            lack = _product(prices, column)
            if lack < 0 or lack == 0 and self._fee_of(index) < 0:
                return index
        return None

    def _fee_of(self, index):
        """How fast the costs fall with the weight of a row."""
        return self.fees[index] * self.scale + _product(self.costs, self.columns[index])

    def _leaving(self, falls):
        """The line that is the first to come down to 0 as all fall so; None if none does."""
        first = None
        for at, fall in enumerate(falls):
            if fall > 0 and (first is None or self._is_sooner(at, first, falls)):
                first = at
        return first

    def _is_sooner(self, at, other_at, falls):
        """Whether a line comes down to 0 before another one."""
        gap = self.lines[at][-1] * falls[other_at] - self.lines[other_at][-1] * falls[at]
        return gap < 0 or gap == 0 and self.told[at] < self.told[other_at]

    def _exchange(self, at, index, falls):
        """Lets a line tell the weight of a row."""
        chosen, factor = self.lines[at], falls[at]
        lack, fee = _product(self._prices(), self.columns[index]), self._fee_of(index)
        self.lines = [line if line_at == at else self._freed(line, falls[line_at], chosen, factor)
                      for line_at, line in enumerate(self.lines)]
        self.lacks = self._freed(self.lacks, lack, chosen, factor)
        self.costs = self._freed(self.costs, fee, chosen, factor)
        self.told[at] = index
        self.scale = factor

    def _freed(self, line, fall, chosen, factor):
        """A line in the new scale, freed of the row that another line is to tell."""
        # All numbers are determinants of the first ones, and so are whole over the old scale.
        return [(factor * number - fall * other) // self.scale for number, other in zip(line, chosen)]

    def _told_weights(self):
        """The weights of the rows as they were passed."""
        weights = [(0, 1)] * len(self.columns)
        for index, line in zip(self.told, self.lines):
            if index < len(self.columns):
                weights[index] = reduced(line[-1] * self.bottoms[index], self.scale * self.target_bottom)
        return tuple(weights)


def _product(line, column):
    """The sum of the products of numbers in the same places, as many as the shorter one has."""
    return sum([number * other for number, other in zip(line, column)])
