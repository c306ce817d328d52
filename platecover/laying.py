"""Laying plates on a field, from its front on, until no coloured place is bare.

The least bare place can only be the corner of the next line, since a cover's
lines stand in order by y, then x. So a cover is told by its lines' parts alone,
and all that matters for what may come next is which places are still bare.

A set of places is kept as a number: place k is in it if the bit of 2 to the k
is set. Laying a plate takes bits away, so what is bare then is a lesser number.
"""

from platecover.builds import Line
from platecover.catalogues import plate_numbers
from platecover.fields import colour_at


class Laying:
    """What is to be covered, with which plates, and of each place those that may have their corner there."""

    def __init__(self, parts, field):
        self.field = field
        self.parts = parts
        self.plates = plate_numbers(parts)
        self.coloured = coloured_set(field)
        self.shapes = [shapes_at(parts, self.plates, field, place) for place in range(len(field.places))]


def coloured_set(field):
    """The set of the field's coloured places."""
    found = 0
    for place in range(len(field.places)):
        if colour_at(field, place) is not None:
            found = found + (1 << place)
    return found


def shape_of(part, field, x, y, colour):
    """The set of places under a flat part with its corner at (x, y); 0 if one isn't of just this colour."""
    if x + part.width > field.width or y + part.depth > field.depth:
        return 0
    shape = 0
    for row in range(y, y + part.depth):
        for column in range(x, x + part.width):
            place = field.width * row + column
            if colour_at(field, place) != colour:
                return 0
            shape = shape + (1 << place)
    return shape


def shapes_at(parts, plates, field, place):
    """Of each of the plates that may have its corner at this place its number and its shape, rising by the numbers."""
    colour = colour_at(field, place)
    if colour is None:
        return []
    x = place % field.width
    y = place // field.width
    shapes = [(plate, shape_of(parts[plate], field, x, y, colour)) for plate in plates]
    return [pair for pair in shapes if pair[1] > 0]


def least_place(bare):
    """The least place of a set that isn't empty."""
    # Taking 1 away changes the lowest set bit and those below it, no other.
    return (bare ^ (bare - 1)).bit_length() - 1


def steps(laying, bare):
    """What may be laid next: of each plate its number and what is bare then, rising by the numbers."""
    if bare == 0:
        return []
    return [(plate, bare - shape) for plate, shape in laying.shapes[least_place(bare)] if (shape & bare) == shape]


def reached_sets(laying):
    """All sets of places that can be bare at some time, rising: those that a step leads to come before it."""
    reached = {laying.coloured: True}
    waiting = [laying.coloured]
    while len(waiting) > 0:
        bare = waiting.pop()
        for plate, after in steps(laying, bare):
            if after not in reached:
                reached[after] = True
                waiting.append(after)
    return sorted(reached)


def fewest_lines(laying):
    """Of each reached set the fewest lines that cover it; a set that no lines cover isn't among them."""
    fewest = {0: 0}
    for bare in reached_sets(laying):
        numbers = [fewest[after] + 1 for plate, after in steps(laying, bare) if after in fewest]
        if len(numbers) > 0:
            fewest[bare] = min(numbers)
    return fewest


def line_at(laying, bare, plate):
    """The line that lays this plate at the least bare place."""
    place = least_place(bare)
    width = laying.field.width
    return Line(plate, colour_at(laying.field, place), (place % width, place // width, 0), 0)


def first_step_of_fewest(laying, fewest, bare):
    """Of the steps behind which the fewest lines are left the one with the least part."""
    return [step for step in steps(laying, bare) if fewest.get(step[1]) == fewest[bare] - 1][0]


def first_of_fewest(laying, fewest):
    """The lines of the first of the covers with the fewest lines, if there is a cover."""
    lines = []
    bare = laying.coloured
    while bare > 0:
        step = first_step_of_fewest(laying, fewest, bare)
        lines.append(line_at(laying, bare, step[0]))
        bare = step[1]
    return lines


def cover_counts(laying):
    """Of each reached set in how many ways lines cover it."""
    counts = {0: 1}
    for bare in reached_sets(laying):
        if bare > 0:
            counts[bare] = sum([counts[after] for plate, after in steps(laying, bare)])
    return counts


def nth_cover(laying, counts, number):
    """The lines of the cover of this number, which is less than how many there are."""
    lines = []
    bare = laying.coloured
    left = number
    while bare > 0:
        choices = steps(laying, bare)
        at = 0
        # The covers that go on with a lesser part come before: they are passed over.
        while left >= counts[choices[at][1]]:
            left = left - counts[choices[at][1]]
            at = at + 1
        lines.append(line_at(laying, bare, choices[at][0]))
        bare = choices[at][1]
    return lines


def number_of_cover(laying, counts, lines):
    """The number of the cover that has these lines: how many covers come before it."""
    number = 0
    bare = laying.coloured
    for line in lines:
        choices = steps(laying, bare)
        number = number + sum([counts[after] for plate, after in choices if plate < line.part])
        bare = [after for plate, after in choices if plate == line.part][0]
    return number
