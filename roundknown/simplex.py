"""The search for a solution of a system of linear conditions or for multipliers.

Multipliers are sought as numbers that are at least 0, one for each column: a row of the kind "le" or "lt"
has one column, a row of the kind "eq" one for its expression and one for the opposite. With the total of
multiplier times constant, called C, and the total of the multipliers of "lt" rows, called S, there are
multipliers exactly if there are some with C at least 0 and C + S = 1. These are equations for numbers that
are at least 0, and the first phase of the simplex method decides them. If they have no solution, the prices
of the equations make a solution of the system.

A table of the method has integers that are to be divided by one common integer, its bottom.
"""

from roundknown.rationals import common_bottom, ratio


def columns_of(v, rows):
    """Return the list of the columns, and the list of their owners.

    A column has the coefficients, the constant and 1 for "lt" or 0. An owner is the index of the row, and the
    number by which the expression was multiplied to get integers.
    """
    columns = []
    owners = []
    for index, (kind, expression) in enumerate(rows):
        bottom = common_bottom(expression)
        whole = [n * (bottom // d) for n, d in expression]
        columns.append(whole[1:] + [whole[0], 1 if kind == "lt" else 0])
        owners.append((index, bottom))
        if kind == "eq":
            columns.append([-number for number in columns[-1]])
            owners.append((index, -bottom))
    return columns, owners


def first_table(v, columns):
    """Return the table in which each equation has a helper of its own, with the costs as the last row.

    The costs are the total of the helpers, which has to become 0.
    """
    many = v + 2
    table = []
    for place in range(many):
        helpers = [1 if other == place else 0 for other in range(many)]
        table.append([column[place] for column in columns] + helpers + [1 if place == many - 1 else 0])
    table.append([-sum(column) for column in columns] + [0] * many + [-1])
    return table


def leaving_row(table, basis, enter):
    """Return the equation with the least quotient, of several ones that with the first number in the basis."""
    best = None
    for place, row in enumerate(table[:-1]):
        if row[enter] <= 0:
            continue
        if best is None:
            best = place
            continue
        gap = row[-1] * table[best][enter] - table[best][-1] * row[enter]
        if gap < 0 or (gap == 0 and basis[place] < basis[best]):
            best = place
    return best


def turned(table, bottom, leave, enter):
    """Return the table after an exchange. The division by the bottom leaves no rest."""
    chosen = table[leave]
    pivot = chosen[enter]
    found = []
    for place, row in enumerate(table):
        if place == leave:
            found.append(row)
        else:
            found.append([(a * pivot - row[enter] * b) // bottom for a, b in zip(row, chosen)])
    return found


def last_table(v, columns):
    """Return the last table, its bottom, and its basis: for each equation the number that is not 0 in it."""
    table = first_table(v, columns)
    basis = [len(columns) + place for place in range(v + 2)]
    bottom = 1
    while True:
        # Always the first one that helps: so the method ends (Bland's rule). Helpers do not come back.
        helping = [place for place in range(len(columns)) if table[-1][place] < 0]
        if not helping:
            return table, bottom, basis
        enter = helping[0]
        leave = leaving_row(table, basis, enter)
        pivot = table[leave][enter]
        table = turned(table, bottom, leave, enter)
        bottom = pivot
        basis[leave] = enter


def decide(v, rows):
    """Return ("solution", numbers) or ("multipliers", numbers) for a system of rows over v variables."""
    columns, owners = columns_of(v, rows)
    # One more column is C, which is taken off in its equation.
    columns.append([0] * v + [-1, 1])
    table, bottom, basis = last_table(v, columns)
    if table[-1][-1] == 0:
        return ("multipliers", multipliers_from(len(rows), owners, table, bottom, basis))
    prices = [bottom - cost for cost in table[-1][len(columns):-1]]
    # The price of the equation for C is at least that of the last one, which is greater than 0.
    return ("solution", tuple([ratio(price, prices[v]) for price in prices[:v]]))


def multipliers_from(count, owners, table, bottom, basis):
    """Return the multipliers that the last table tells."""
    totals = [0] * count
    for row, place in zip(table, basis):
        if place < len(owners):
            index, factor = owners[place]
            totals[index] += factor * row[-1]
    return tuple([ratio(total, bottom) for total in totals])
