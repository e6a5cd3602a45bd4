"""An assignment of rows to columns at the least cost, and the prices which show that none costs less."""


class Prices:
    """The prices of rows and columns, and which row each column has, as long as rows are put in one by one.

    The price of a row and that of a column never come to more than what the row costs there, and to just as much where
    the column has the row; columns have no prices above 0, and those without a row have 0.
    """

    def __init__(self, costs, columns):
        self.costs = costs
        self.rows = [0] * len(costs)
        self.columns = [0] * columns
        # The row that each column has, -1 if it has none.
        self.owners = [-1] * columns

    def put_in(self, row):
        """Has one row more have a column."""
        # How much cheaper each column must become to be reached, and from which column it is reached, -1: from the row.
        gaps = [self.costs[row][column] - self.rows[row] - price for column, price in enumerate(self.columns)]
        ahead = [-1] * len(gaps)
        reached = []
        owner = row
        while owner >= 0:
            column = least_place(gaps, reached)
            self.shift(row, reached, gaps, gaps[column])
            reached.append(column)
            owner = self.owners[column]
            if owner >= 0:
                for other, price in enumerate(self.columns):
                    gap = self.costs[owner][other] - self.rows[owner] - price
                    if other not in reached and gap < gaps[other]:
                        gaps[other] = gap
                        ahead[other] = column
        while ahead[column] >= 0:
            self.owners[column] = self.owners[ahead[column]]
            column = ahead[column]
        self.owners[column] = row

    def shift(self, row, reached, gaps, step):
        """Changes prices by a step, so that one column more is reached."""
        self.rows[row] += step
        for column in range(len(gaps)):
            if column in reached:
                self.rows[self.owners[column]] += step
                self.columns[column] -= step
            else:
                gaps[column] -= step


def least_place(gaps, reached):
    """The index, not among those reached, of the least gap."""
    return min([at for at in range(len(gaps)) if at not in reached], key=lambda at: gaps[at])


def assigned(costs, columns):
    """Which column each row has so that all together cost the least, and the prices of rows and of columns.

    costs is a list of lists of integers, one for each row; there are at least as many columns as rows.
    """
    prices = Prices(costs, columns)
    for row in range(len(costs)):
        prices.put_in(row)
    return [prices.owners.index(row) for row in range(len(costs))], prices.rows, prices.columns
