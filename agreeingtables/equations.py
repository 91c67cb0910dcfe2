"""Whether numbers, none below 0, meet several equations at once."""


def column_sum(rows, column):
    return sum([row[column] for row in rows])


# An equation is a row: a whole number before each unknown, then what these are to sum up to, which is 0 or more.
# This is the simplex method. At first every unknown is 0, and a stopgap of each row's own fills what the row lacks; it
# has no column, since once out it never comes back. A number in a row stands for itself divided by divisor: so all is
# exact without fractions. The row called lacking is the sum of the rows that a stopgap still fills.
class Search:
    def __init__(self, rows):
        self.unknowns = len(rows[0]) - 1
        self.rows = list(rows)
        self.lacking = [column_sum(rows, column) for column in range(self.unknowns + 1)]
        # Which unknown is filling each row; numbers behind those of the unknowns stand for the stopgaps.
        self.filling = [self.unknowns + i for i in range(len(rows))]
        self.divisor = 1

    def is_done(self):
        return self.lacking[self.unknowns] == 0

    # The first column of those that lessen what is lacking, not the best one: together with the choice between rows
    # that are as tight (Bland's rule) this keeps the search from going round in a ring.
    def helpful_column(self):
        for column in range(self.unknowns):
            if self.lacking[column] > 0:
                return column
        return None

    def is_tighter(self, i, other, column):
        row = self.rows[i]
        against = self.rows[other]
        here = row[self.unknowns] * against[column]
        there = against[self.unknowns] * row[column]
        if here == there:
            return self.filling[i] < self.filling[other]
        return here < there

    # The row that first comes down to 0 when the column's unknown grows. There is one: the column's sum over the rows
    # that a stopgap fills is above 0.
    def tightest_row(self, column):
        tightest = None
        for i, row in enumerate(self.rows):
            if row[column] > 0 and (tightest is None or self.is_tighter(i, tightest, column)):
                tightest = i
        return tightest

    # The old divisor divides every number here without a rest, as each is a determinant of some of the first numbers.
    def cleared(self, row, by, column):
        return [(by[column] * a - row[column] * b) // self.divisor for a, b in zip(row, by)]

    def fill(self, chosen, column):
        by = self.rows[chosen]
        self.rows = [by if i == chosen else self.cleared(row, by, column) for i, row in enumerate(self.rows)]
        self.lacking = self.cleared(self.lacking, by, column)
        self.filling[chosen] = column
        self.divisor = by[column]


def can_be_met(rows):
    if len(rows) == 0:
        return True
    search = Search(rows)
    while not search.is_done():
        column = search.helpful_column()
        if column is None:
            return False
        search.fill(search.tightest_row(column), column)
    return True
