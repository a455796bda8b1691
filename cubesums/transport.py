"""Amounts with given sums over rows and columns, at the least cost, and the prices that show that none cost less."""


class Transport:
    """Amounts at cells, each of which is in one row and in one column and has a cost for each unit.

    The prices of a cell's row and column together never exceed its cost, and amounts come only to cells
    where they reach it. So the amounts cost what the prices times the sums add up to, which no others undercut.
    """

    def __init__(self, rows, columns, costs, row_sums, column_sums):
        self._rows = rows
        self._columns = columns
        self._costs = costs
        self.amounts = [0] * len(costs)
        self.row_prices = [min(costs)] * (max(rows) + 1)
        self.column_prices = [0] * (max(columns) + 1)
        # What the amounts still lack to the sums of the rows and of the columns.
        self._left = list(row_sums)
        self._wanted = list(column_sums)

    def fill(self):
        """Find the amounts and the prices, where some amounts have the sums."""
        while any([left > 0 for left in self._left]):
            row_ways, column_ways = self._ways()
            ends = [column for column in column_ways if self._wanted[column] > 0]
            if ends:
                self._ship(ends[0], row_ways, column_ways)
            else:
                self._change_prices(row_ways, column_ways)

    def _slack(self, cell):
        """Return by how much the cost of a cell exceeds its prices."""
        return self._costs[cell] - self.row_prices[self._rows[cell]] - self.column_prices[self._columns[cell]]

    def _ways(self):
        """Return the rows and columns that more can come to, each with the last cell on a shortest way there.

        The ways begin at the rows that lack something, for which the cell is None. From a row they take a
        cell without slack, to which more can come; from a column a cell from which something can be taken.
        """
        row_ways = {row: None for row, left in enumerate(self._left) if left > 0}
        column_ways = {}
        reached = 0
        while reached < len(row_ways) + len(column_ways):
            reached = len(row_ways) + len(column_ways)
            for cell, (row, column) in enumerate(zip(self._rows, self._columns)):
                if row in row_ways and column not in column_ways and self._slack(cell) == 0:
                    column_ways[column] = cell
            for cell, (row, column) in enumerate(zip(self._rows, self._columns)):
                if column in column_ways and row not in row_ways and self.amounts[cell] > 0:
                    row_ways[row] = cell
        return row_ways, column_ways

    def _ship(self, end, row_ways, column_ways):
        """Bring as much as possible on the way to a column that lacks something."""
        more = [column_ways[end]]
        less = []
        row = self._rows[more[-1]]
        while row_ways[row] is not None:
            less.append(row_ways[row])
            more.append(column_ways[self._columns[less[-1]]])
            row = self._rows[more[-1]]
        amount = min([self._left[row], self._wanted[end]] + [self.amounts[cell] for cell in less])
        for cell in more:
            self.amounts[cell] += amount
        for cell in less:
            self.amounts[cell] -= amount
        self._left[row] -= amount
        self._wanted[end] -= amount

    def _change_prices(self, row_ways, column_ways):
        """Change prices so that one more column is reached, and none that was is lost."""
        slacks = []
        for cell, (row, column) in enumerate(zip(self._rows, self._columns)):
            if row in row_ways and column not in column_ways:
                slacks.append(self._slack(cell))
        change = min(slacks)
        for row in row_ways:
            self.row_prices[row] += change
        for column in column_ways:
            self.column_prices[column] -= change
