"""Drawings of towns: cells that calls can be in, and masts with places ([51])."""

from mastcalls.deeds import check_end, read_name, read_word
from mastcalls.errors import BadText
from mastcalls.maps import Map

FREE = "."
SIGNS = ".#"
MOST_ROWS = 100
MOST_COLUMNS = 100
# The greatest row, column, number of channels and square in the line of a mast.
MOST_OF_SITE = (99, 99, 1000, 99999)
MOST_SHOWN = 9


class Site:
    """Where a mast stands, its channels, and the square of how far it hears."""

    def __init__(self, row, column, channels, square):
        self.row = row
        self.column = column
        self.channels = channels
        self.square = square

    def __eq__(self, other):
        return (isinstance(other, Site) and self.row == other.row and self.column == other.column
                and self.channels == other.channels and self.square == other.square)


class Drawing:
    """Rows of cells, and the sites of masts."""

    def __init__(self, rows, sites):
        self.rows = tuple(rows)
        self.sites = {mast: sites[mast] for mast in sorted(sites)}

    def __eq__(self, other):
        return isinstance(other, Drawing) and self.rows == other.rows and self.sites == other.sites

    def cells(self):
        """The cells that calls can be in."""
        found = []
        for row, signs in enumerate(self.rows):
            found.extend([(row, column) for column, sign in enumerate(signs) if sign == FREE])
        return found

    def hears(self, mast, cell):
        """Whether a mast hears calls in a cell."""
        site = self.sites[mast]
        rows = cell[0] - site.row
        columns = cell[1] - site.column
        return rows * rows + columns * columns <= site.square

    def heard_in(self, cell):
        """The masts that hear calls in a cell."""
        return [mast for mast in self.sites if self.hears(mast, cell)]

    def deaf_cells(self):
        """The cells that no mast hears."""
        return [cell for cell in self.cells() if not self.heard_in(cell)]


def zone_of(cell):
    """The name of a cell's zone."""
    return f"r{cell[0]}c{cell[1]}"


def map_of(drawing):
    """The map of the cells, with roads both ways between those that are next to one another."""
    cells = {cell: zone_of(cell) for cell in drawing.cells()}
    heard = {zone: drawing.heard_in(cell) for cell, zone in cells.items()}
    roads = []
    for (row, column), zone in cells.items():
        for other in ((row + 1, column), (row, column + 1)):
            if other in cells:
                roads.extend([(zone, cells[other]), (cells[other], zone)])
    return Map({mast: site.channels for mast, site in drawing.sites.items()}, heard, roads)


def write_drawing(drawing):
    """The lines of the masts, then the rows."""
    lines = []
    for mast, site in drawing.sites.items():
        lines.append(f"mast {mast} {site.row} {site.column} {site.channels} {site.square}")
    return "\n".join(lines + list(drawing.rows))


def read_drawing(text):
    """The drawing that a text tells."""
    sites = {}
    rows = []
    for line, row in enumerate(text.split("\n")):
        words = row.split(" ")
        if words[0] == "mast" and not rows:
            name = read_name(words, 1, line, sites, False)
            sites[name] = read_site(words, line)
        else:
            check_row(rows, row, line)
            rows.append(row)
    if not rows:
        raise BadText(len(sites), 0)
    return Drawing(rows, sites)


def read_site(words, line):
    """The site that the numbers behind a mast's name tell."""
    numbers = []
    for at, most in enumerate(MOST_OF_SITE, start=2):
        number = read_word(words, at, "number", line)
        if number > most:
            raise BadText(line, at)
        numbers.append(number)
    check_end(words, 2 + len(MOST_OF_SITE), line)
    return Site(numbers[0], numbers[1], numbers[2], numbers[3])


def check_row(rows, row, line):
    """BadText for a row that can't stand behind some rows."""
    if not 1 <= len(row) <= MOST_COLUMNS or len(rows) >= MOST_ROWS:
        raise BadText(line, 0)
    if rows and len(row) != len(rows[0]):
        raise BadText(line, 0)
    if not all([sign in SIGNS for sign in row]):
        raise BadText(line, 0)


def heard_picture(drawing):
    """The rows, with how many masts hear each cell."""
    return [picture_of(drawing, row) for row in range(len(drawing.rows))]


def picture_of(drawing, row):
    """A row, with how many masts hear each cell."""
    signs = []
    for column, sign in enumerate(drawing.rows[row]):
        if sign == FREE:
            signs.append(str(min(MOST_SHOWN, len(drawing.heard_in((row, column))))))
        else:
            signs.append(sign)
    return "".join(signs)
