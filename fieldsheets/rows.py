"""Reading a row of levels or of named sheets; WrongInput if it isn't so."""

from fieldsheets.checks import check_between, check_side
from fieldsheets.levels import Level, Painted
from fieldsheets.reading import LONGEST_NAME, is_name
from fieldsheets.refusals import WrongInput

MOST_LEVELS = 8
MOST_PAINT = 255


class Row:
    """A row's numbers and how many of them are passed over."""

    def __init__(self, numbers):
        self.numbers = numbers
        self.at = 0

    def at_end(self):
        return self.at == len(self.numbers)

    def take(self, count):
        part = self.numbers[self.at:self.at + count]
        if len(part) < count:
            raise WrongInput()
        self.at += count
        return part


def read_size(row):
    size = row.take(2)
    for side in size:
        check_side(side)
    return size


def read_paints(row, size):
    paints = row.take(size[0] * size[1])
    for paint in paints:
        check_between(paint, 0, MOST_PAINT)
    return paints


def read_level(row):
    size = read_size(row)
    moved = row.take(2)
    painted = Painted(size[0], size[1], read_paints(row, size))
    return Level(painted, moved[0], moved[1])


def read_row_name(row):
    length = row.take(1)[0]
    # One below 0 would go back in the row.
    check_between(length, 1, LONGEST_NAME)
    name = row.take(length)
    if not is_name(name):
        raise WrongInput()
    return name


def read_named_sheet(row):
    name = read_row_name(row)
    size = read_size(row)
    return (name, Painted(size[0], size[1], read_paints(row, size)))


def read_row(l, read_one):
    row = Row(l)
    found = []
    while not row.at_end():
        if len(found) == MOST_LEVELS:
            raise WrongInput()
        found.append(read_one(row))
    return found


def read_levels(l):
    """The row's levels, the uppermost first."""
    return read_row(l, read_level)


def read_named_sheets(l):
    """The row's sheets, the uppermost first: pairs of the name's bytes and what's painted."""
    return read_row(l, read_named_sheet)
