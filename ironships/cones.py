"""Sums of rows of fractions with weights from 0 on: told exactly, by the simplex method over whole numbers."""

from ironships.ratios import common_bottom, reduced, scaled


class Sums:
    """Weights from 0 on with which rows add up to a target, at the least cost, if there are any.

    is_reached: whether there are some; weights: one for each row, in their order; cost: the sum of the weights, each
    times the cost of its row, None if it has no end below; parting: a row whose product with each row is from 0 on,
    that with the target below 0. By Farkas there is such a row just if there are no weights; else it tells nothing."""

    def __init__(self, rows, target, costs):
        columns = [row + (cost,) for row, cost in zip(rows, costs)]
        self.bottoms = [common_bottom(column) for column in columns]
        self.target_bottom = common_bottom(target)
        self.many = len(columns)
        self._begin([scaled(column, bottom) for column, bottom in zip(columns, self.bottoms)],
                    scaled(target, self.target_bottom))
        has_end = self._go_down()
        self.is_reached = self.lacks[-1] == 0
        self.weights = self._told_weights()
        self.cost = reduced(-self.costs[-1], self.scale * self.target_bottom) if has_end else None
        self.parting = tuple([(sign * (self.lacks[self.many + at] - self.scale), 1)
                              for at, sign in enumerate(self.signs)])

    def _begin(self, columns, target):
        """The lines to begin with, each number being over the scale.

        A line for each number of the target; in it a number for each row, for what each number of the target lacks
        (what is there at first instead of weights), and last how much there is of what the line tells. Two more lines
        tell what the whole lack and the cost grow by; both are to fall, the lack ahead of the cost."""
        places = range(len(target))
        self.scale = 1
        self.signs = [-1 if aim < 0 else 1 for aim in target]
        self.lines = []
        for at, sign in enumerate(self.signs):
            own = [1 if other == at else 0 for other in places]
            self.lines.append([sign * column[at] for column in columns] + own + [sign * target[at]])
        self.lacks = [-sum([line[at] for line in self.lines]) for at in range(self.many)]
        self.lacks = self.lacks + [0 for _ in places] + [-sum([line[-1] for line in self.lines])]
        self.costs = [column[-1] for column in columns] + [0 for _ in places] + [0]
        self.told = [self.many + at for at in places]

    def _go_down(self):
        """Lets lack and cost fall as far as they can; whether they have an end.

        The first row that may and the first line that has to are taken each time (Bland's rule), so that this ends."""
        while True:
            column = self._entering()
            if column is None:
                return True
            at = self._leaving(column)
            if at is None:
                return False
            self._exchange(at, column)

    def _entering(self):
        """The first row with which lack or cost falls; None if there is none."""
        for column in range(self.many):
            lack = self.lacks[column]
            if lack < 0 or lack == 0 and self.costs[column] < 0:
                return column
        return None

    def _leaving(self, column):
        """The line that is the first to come down to 0 as the weight of a row grows; None if none does."""
        first = None
        for at, line in enumerate(self.lines):
            if line[column] > 0 and (first is None or self._is_sooner(at, first, column)):
                first = at
        return first

    def _is_sooner(self, at, other_at, column):
        """Whether a line comes down to 0 before another one."""
        line, other = self.lines[at], self.lines[other_at]
        gap = line[-1] * other[column] - other[-1] * line[column]
        return gap < 0 or gap == 0 and self.told[at] < self.told[other_at]

    def _exchange(self, at, column):
        """Lets a line tell the weight of a row."""
        chosen = self.lines[at]
        self.lines = [line if line_at == at else self._freed(line, chosen, column)
                      for line_at, line in enumerate(self.lines)]
        self.lacks = self._freed(self.lacks, chosen, column)
        self.costs = self._freed(self.costs, chosen, column)
        self.told[at] = column
        self.scale = chosen[column]

    def _freed(self, line, chosen, column):
        """A line in the new scale, freed of the row that another line is to tell."""
        factor, own = chosen[column], line[column]
        # All numbers are determinants of the first ones, and so are whole over the old scale.
        return [(factor * number - own * other) // self.scale for number, other in zip(line, chosen)]

    def _told_weights(self):
        """The weights of the rows as they were passed."""
        weights = [(0, 1)] * self.many
        for column, line in zip(self.told, self.lines):
            if column < self.many:
                weights[column] = reduced(line[-1] * self.bottoms[column], self.scale * self.target_bottom)
        return tuple(weights)
