"""The exact simplex method, by which the package decides what rows allow."""

from anyfont.values import common_divisor


class Tableau:
    """The slacks of rows, each written by those of a few rows that are called free.

    The slack of a row is its bound less its sum. A strict row counts as one that
    is not strict, with a bound that is smaller by a STEP: a width greater than 0
    and smaller than every number that can occur here. So an amount is a pair, the
    whole part and the number of steps, and pairs are ordered as tuples are.

    For each row that is not free, unit * slack is the amount in its last two cells
    less the sum of its other cells, each times the slack of the free row of that
    column. All cells are integers.
    """

    def __init__(self, rows, many):
        # The widths themselves are the slacks of the rows that they are at least 0,
        # so with these rows free the factors of the other rows are the cells.
        first = len(rows) - 2 * many
        self.size = len(rows)
        self.signs = list(range(first, first + many))
        self.free = list(self.signs)
        self.tied = [name for name in range(len(rows)) if not first <= name < first + many]
        self.cells = [[*rows[name][0], rows[name][1], -1 if rows[name][2] else 0] for name in self.tied]
        self.unit = 1

    def settle(self):
        """Pivot until no slack is below 0; return None, or the place of a row that never is.

        Always taking the least row and the least free row that serve keeps the
        method from going round in circles (Bland's rule).
        """
        while True:
            place = self.violated_place()
            if place is None:
                return None
            column = self.lifting_column(self.cells[place])
            if column is None:
                return place
            self.pivot(place, column)

    def violated_place(self):
        """Return the place of the least row whose slack is below 0 if the free ones are 0, or None."""
        least = None
        for place, row in enumerate(self.cells):
            if row[-2:] < [0, 0] and (least is None or self.tied[place] < self.tied[least]):
                least = place
        return least

    def lifting_column(self, cells):
        """Return the column of the least free row that has a cell below 0, or None."""
        least = None
        for column, name in enumerate(self.free):
            if cells[column] < 0 and (least is None or name < self.free[least]):
                least = column
        return least

    def pivot(self, place, column):
        """Make the row at a place free, instead of the free row of a column."""
        lead = self.cells[place]
        middle = lead[column]
        sign = 1 if middle > 0 else -1
        made = []
        for row in self.cells:
            part = row[column]
            # The unit divides these differences: all cells are minors of one matrix.
            fresh = [sign * (middle * cell - part * other) // self.unit for cell, other in zip(row, lead)]
            fresh[column] = -sign * part
            made.append(fresh)
        made[place] = [sign * cell for cell in lead]
        made[place][column] = sign * self.unit
        self.cells = made
        self.unit = sign * middle
        self.tied[place], self.free[column] = self.free[column], self.tied[place]

    def multipliers(self, place):
        """Return the refutation that a row shows that settle has returned."""
        found = [0] * self.size
        found[self.tied[place]] = self.unit
        for column, name in enumerate(self.free):
            found[name] = self.cells[place][column]
        common = common_divisor(found)
        return tuple([multiplier // common for multiplier in found])

    def rise(self, factors):
        """Pivot a settled tableau until the sum of the widths, times factors, is highest."""
        while True:
            column = self.lifting_column(self.combined(factors))
            if column is None:
                return
            self.pivot(self.blocking_place(column), column)

    def combined(self, factors):
        """Return cells for the sum of the widths, times factors, in the form of a row's cells."""
        total = [0] * (len(self.free) + 2)
        for name, factor in zip(self.signs, factors):
            total = [part + factor * cell for part, cell in zip(total, self.cells_of(name))]
        return total

    def cells_of(self, name):
        """Return the cells of a row, which may be a free one."""
        if name in self.tied:
            return self.cells[self.tied.index(name)]
        return [-self.unit if other == name else 0 for other in self.free] + [0, 0]

    def blocking_place(self, column):
        """Return the place of the row whose slack is the first to be 0 if that of a column grows."""
        first = None
        for place, row in enumerate(self.cells):
            if row[column] > 0 and (first is None or self.blocks_before(place, first, column)):
                first = place
        return first

    def blocks_before(self, place, other, column):
        """Return whether the row at a place blocks a column before another one does."""
        cells, others = self.cells[place], self.cells[other]
        mine = [others[column] * part for part in cells[-2:]]
        yours = [cells[column] * part for part in others[-2:]]
        return mine < yours or (mine == yours and self.tied[place] < self.tied[other])

    def font(self):
        """Return the font of a settled tableau in which the free slacks are 0."""
        whole, part = self.step()
        unit = self.unit * part
        widths = []
        for name in self.signs:
            cells = self.cells_of(name)
            widths.append(cells[-2] * part + cells[-1] * whole)
        common = common_divisor([unit, *widths])
        return unit // common, tuple([width // common for width in widths])

    def step(self):
        """Return a fraction that is small enough to stand for the step: no slack falls below 0."""
        whole, part = 1, 1
        for row in self.cells:
            if row[-2] * part < -row[-1] * whole:
                whole, part = row[-2], -row[-1]
        return whole, part
