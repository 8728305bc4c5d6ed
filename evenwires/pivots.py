"""The most that columns are worth under bounds of one each, in whole numbers over one bottom.

A sheet has a row for each bound: a cell for each column, one for each bound's
slack, and last what is left. Its last row tells what more of a column would
cost. All cells are over the same bottom, so no fraction is ever needed.
"""


def most_worth(columns, worths, many):
    """(bottom, times, prices): how often each column is taken, and what each of so many bounds is worth.

    columns tell what a column takes of each bound. Both answers are over the
    bottom; each shows that the other one cannot be bettered.
    """
    sheet = first_sheet(columns, worths, many)
    taken = [len(columns) + bound for bound in range(many)]
    bottom = 1
    column = first_below(sheet[-1])
    while column is not None:
        at = tightest(sheet, taken, column)
        sheet = pivoted(sheet, at, column, bottom)
        bottom = sheet[at][column]
        taken[at] = column
        column = first_below(sheet[-1])
    left = {name: row[-1] for name, row in zip(taken, sheet)}
    times = [left.get(name, 0) for name in range(len(columns))]
    return bottom, times, sheet[-1][len(columns):-1]


def first_sheet(columns, worths, many):
    """The sheet with nothing taken yet."""
    sheet = []
    for bound in range(many):
        slack = [1 if other == bound else 0 for other in range(many)]
        sheet.append([column[bound] for column in columns] + slack + [1])
    sheet.append([-worth for worth in worths] + [0] * (many + 1))
    return sheet


def first_below(costs):
    """The first cell that is below 0, or None."""
    # Always the first one, here and in a tie: so no sheet comes again, and there is an end.
    for at, cost in enumerate(costs):
        if cost < 0:
            return at
    return None


def tightest(sheet, taken, column):
    """The row that lets least be taken of the column; of several the one whose own is first."""
    best = None
    for at, own in enumerate(taken):
        if sheet[at][column] > 0 and (best is None or is_tighter(sheet, taken, column, at, best)):
            best = at
    return best


def is_tighter(sheet, taken, column, at, best):
    """Whether this row lets less be taken of the column than the best so far."""
    here = sheet[at][-1] * sheet[best][column]
    there = sheet[best][-1] * sheet[at][column]
    return here < there or (here == there and taken[at] < taken[best])


def pivoted(sheet, at, column, bottom):
    """The sheet with the column taken by the row, over the cell of both instead of the bottom."""
    pivot = sheet[at][column]
    found = []
    for k, row in enumerate(sheet):
        if k == at:
            found.append(row)
        else:
            # Each such cell is a minor of the first sheet, so nothing is left over.
            found.append([(cell * pivot - row[column] * other) // bottom for cell, other in zip(row, sheet[at])])
    return found
