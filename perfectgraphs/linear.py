"""Linear programs and equations, in whole numbers alone.

The numbers of a table stand for fractions with one divisor, the last pivot:
so each division here leaves nothing over.
"""

from perfectgraphs.rationals import ZERO, lowest_terms


def best_shares(rows, gains):
    """(SUM, SHARES, PRICES), fractions: SHARES from 0 on with the greatest sum of gains, each row's being up to 1.

    PRICES has a number from 0 on for each row; these solve the dual program, so they come to SUM, too.
    """
    width = len(gains)
    table = [line + [1] for line in rows] + [[-gain for gain in gains] + [0]]
    # Variables are told by numbers: the shares first, then what each row leaves over.
    columns = list(range(width))
    heads = list(range(width, width + len(rows)))
    divisor = 1
    at = _entering(table, columns)
    while at is not None:
        row = _leaving(table, heads, at)
        pivot = table[row][at]
        table = _exchanged(table, row, at, divisor)
        divisor = pivot
        heads[row], columns[at] = columns[at], heads[row]
        at = _entering(table, columns)
    ends = [line[-1] for line in table]
    shares = _by_number(heads, ends, divisor, width + len(rows))[:width]
    prices = _by_number(columns, table[-1], divisor, width + len(rows))[width:]
    return (lowest_terms(ends[-1], divisor), shares, prices)


def _entering(table, columns):
    """The place of a variable that makes the sum greater; None."""
    # The least one, by Bland's rule: so no table comes twice.
    fitting = [(column, at) for at, column in enumerate(columns) if table[-1][at] < 0]
    return min(fitting)[1] if fitting else None


def _leaving(table, heads, at):
    """The row that is the first one to come to its bound if the variable at this place grows."""
    best = None
    for row, head in enumerate(heads):
        if table[row][at] <= 0:
            continue
        if best is None:
            best = row
        ahead = table[row][-1] * table[best][at] - table[best][-1] * table[row][at]
        if ahead < 0 or (ahead == 0 and head < heads[best]):
            best = row
    return best


def _exchanged(table, row, at, divisor):
    """The table behind the exchange of the row's variable and that of the column at this place."""
    by = table[row]
    behind = []
    for line in table:
        told = _without(line, by, at, divisor)
        told[at] = -line[at]
        behind.append(told)
    behind[row] = by[:at] + [divisor] + by[at + 1:]
    return behind


def _by_number(variables, numbers, divisor, many):
    """The fractions told for the variables, in the order of all their numbers, 0 for the others."""
    values = [ZERO] * many
    for variable, number in zip(variables, numbers):
        values[variable] = lowest_terms(number, divisor)
    return values


def rank(rows):
    """How many of the rows there are at most of which none follows from the others."""
    return _eliminated(rows, len(rows[0]) if rows else 0)[0]


def only_solution(rows, number):
    """The only fractions, one for each row, all of whose sums by the rows are this number; None."""
    width = len(rows)
    many, divisor, lines = _eliminated([line + [number] for line in rows], width)
    if many < width:
        return None
    return [lowest_terms(line[-1], divisor) for line in lines]


def _eliminated(rows, width):
    """(MANY, DIVISOR, LINES): MANY of the lines have a place of their own, where DIVISOR stands, 0 in all others."""
    lines = list(rows)
    many = 0
    divisor = 1
    for at in range(width):
        fitting = [place for place in range(many, len(lines)) if lines[place][at]]
        if fitting:
            lines[many], lines[fitting[0]] = lines[fitting[0]], lines[many]
            by = lines[many]
            lines = [_without(line, by, at, divisor) for line in lines]
            lines[many] = by
            divisor = by[at]
            many += 1
    return (many, divisor, lines)


def _without(line, by, at, divisor):
    """The line less so many times the other one that nothing is left at this place."""
    return [(number * by[at] - line[at] * other) // divisor for number, other in zip(line, by)]
