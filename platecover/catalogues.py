"""Catalogues: their text, when they are right, and which of their parts are plates."""

from platecover.reading import codes

MOST_PARTS = 64
LONGEST_PART_NAME = 8
GREATEST_WIDTH = 16
GREATEST_DEPTH = 16
GREATEST_HEIGHT = 18
GREATEST_WEIGHT = 9999

PLATE_WIDTH = 6
PLATE_DEPTH = 4

NO_CELL = "."
PLAIN = "#"
STUD = "s"
TUBE = "t"
STUD_AND_TUBE = "b"


class Part:
    """A part: its place (x, y, z) is the one of the number (z * depth + y) * width + x, as a byte of the text."""

    def __init__(self, name, size, places):
        self.name = name
        self.width = size[0]
        self.depth = size[1]
        self.height = size[2]
        self.places = places


def read_part(reader):
    """Reads the text of one part; where there is none the reader is stuck."""
    reader.take_signs("part ")
    name = reader.take_name(LONGEST_PART_NAME)
    reader.take_signs(" ")
    width = reader.take_number(GREATEST_WIDTH)
    reader.take_signs(" ")
    depth = reader.take_number(GREATEST_DEPTH)
    reader.take_signs(" ")
    height = reader.take_number(GREATEST_HEIGHT)
    reader.take_signs(" ")
    # No call asks for the weight: it only has to be a right one.
    reader.take_number(GREATEST_WEIGHT)
    reader.take_signs("\n")
    places = reader.take_rows(width, depth * height, NO_CELL + PLAIN + STUD + TUBE + STUD_AND_TUBE)
    return Part(name, (width, depth, height), places)


def read_catalogue(reader):
    """Reads a whole text as a catalogue's, and gives back its parts; where it is none the reader is stuck."""
    parts = [read_part(reader)]
    while len(parts) < MOST_PARTS and reader.has_more():
        parts.append(read_part(reader))
    reader.take_end()
    return parts


def cells_of(part):
    """The numbers of those places of the part that have a cell."""
    no_cell = ord(NO_CELL)
    return [at for at, place in enumerate(part.places) if place != no_cell]


def x_of(part, at):
    """The x of the part's place of that number."""
    return at % part.width


def y_of(part, at):
    """The y of the part's place of that number."""
    return at // part.width % part.depth


def z_of(part, at):
    """The z of the part's place of that number."""
    return at // (part.width * part.depth)


def studs_and_tubes_are_free(part):
    """Points 1 and 2: no cell just above a stud, none just below a tube."""
    no_cell = ord(NO_CELL)
    studded = codes(STUD + STUD_AND_TUBE)
    tubed = codes(TUBE + STUD_AND_TUBE)
    layer = part.width * part.depth
    # Each place of the upper layers beside the one just below it.
    for upper, lower in zip(part.places[layer:], part.places):
        if upper != no_cell and lower in studded:
            return False
        if lower != no_cell and upper in tubed:
            return False
    return True


def reaches_all_sides(part):
    """Point 3: there is a cell at the first and the last x, y and z."""
    cells = cells_of(part)
    xs = [x_of(part, at) for at in cells]
    ys = [y_of(part, at) for at in cells]
    zs = [z_of(part, at) for at in cells]
    return (
        0 in xs and part.width - 1 in xs
        and 0 in ys and part.depth - 1 in ys
        and 0 in zs and part.height - 1 in zs
    )


def neighbours(part, at):
    """The numbers of the part's places that lie side by side with that one, just above and just below it."""
    layer = part.width * part.depth
    found = []
    if x_of(part, at) > 0:
        found.append(at - 1)
    if x_of(part, at) < part.width - 1:
        found.append(at + 1)
    if y_of(part, at) > 0:
        found.append(at - part.width)
    if y_of(part, at) < part.depth - 1:
        found.append(at + part.width)
    if z_of(part, at) > 0:
        found.append(at - layer)
    if z_of(part, at) < part.height - 1:
        found.append(at + layer)
    return found


def hangs_together(part):
    """Point 4: there is a cell, and from it all others are reached."""
    cells = cells_of(part)
    if len(cells) == 0:
        return False
    left = dict([(at, True) for at in cells])
    left.pop(cells[0])
    waiting = [cells[0]]
    while len(waiting) > 0:
        at = waiting.pop()
        for near in neighbours(part, at):
            if near in left:
                left.pop(near)
                waiting.append(near)
    return len(left) == 0


def is_right_part(part):
    """Points 1 to 4."""
    return studs_and_tubes_are_free(part) and reaches_all_sides(part) and hangs_together(part)


def names_rise(parts):
    """Point 5: each name is greater than the one before it."""
    for before, after in zip(parts, parts[1:]):
        if after.name <= before.name:
            return False
    return True


def is_right_catalogue(parts):
    """Points 1 to 5."""
    return names_rise(parts) and all([is_right_part(part) for part in parts])


def has_form_of_plate(part):
    """Whether the part is a plate as long as no earlier one has its width and depth."""
    return (
        part.height == 1 and part.width <= PLATE_WIDTH and part.depth <= PLATE_DEPTH
        and part.places.count(ord(STUD_AND_TUBE)) == len(part.places)
    )


def plate_numbers(parts):
    """The numbers of the plates of a right catalogue, rising."""
    taken = {}
    numbers = []
    for number, part in enumerate(parts):
        size = (part.width, part.depth)
        if has_form_of_plate(part) and size not in taken:
            taken[size] = True
            numbers.append(number)
    return numbers
