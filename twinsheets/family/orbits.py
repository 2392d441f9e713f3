"""The rows to which the changes of a genus lead a row, up to scales."""

from twinsheets.base.numbers import inverse_of, least_nonsquare, residue_root
from twinsheets.curve.changes import led_row, normal_tables
from twinsheets.poly.rows import row_scaled, trimmed


def least_scaled(prime, row):
    """The row with the least number among those that are a row times the square of a residue other than 0."""
    # The number is the least where the lead is: 1 for a square, or else the least residue that is none.
    lead = least_nonsquare(prime) if residue_root(prime, row[-1]) is None else 1
    return row_scaled(prime, row, lead * inverse_of(prime, row[-1]) % prime)


def led_rows(prime, genus, row):
    """The list of the rows, the least ones by scales, to which all tables lead the row of a curve."""
    size = 2 * genus + 2
    return [least_scaled(prime, led_row(prime, row, size, table)) for table in normal_tables(prime)]


def column_tables(prime, genus):
    """For each table of a change, the columns by which the entries of a row that it leads to are told."""
    size = 2 * genus + 2
    units = [(0,) * at + (1,) for at in range(size + 1)]
    found = []
    for table in normal_tables(prime):
        led = [led_row(prime, unit, size, table) for unit in units]
        found.append([tuple([row[at] if at < len(row) else 0 for row in led]) for at in range(size + 1)])
    return found


def led_by(prime, columns, row):
    """The row, the least one by scales, to which a table with these columns leads the row of a curve."""
    led = [sum([entry * part for entry, part in zip(row, column)]) % prime for column in columns]
    return least_scaled(prime, trimmed(led))
