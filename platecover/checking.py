"""Whether a build is a cover, and if not, what is wrong with it."""

from platecover.laying import least_place, shape_of

NOT_LAID_AS_PLATE = 1
NOT_BEHIND_LINE_BEFORE = 2
NOT_ON_ITS_PLACES = 3
PLACE_LEFT_BARE = 4


def is_laid_as_plate(laying, line):
    """Whether the line's part is a plate, and lies as those of a cover do."""
    return line.part in laying.plates and line.z == 0 and line.turns == 0


def stands_behind(line, before):
    """Whether the line comes behind the other one, by y, then x."""
    return line.y > before.y or (line.y == before.y and line.x > before.x)


def shape_of_line(laying, line):
    """The set of places under the line's plate; 0 if one of its cells isn't on a place of just its colour."""
    return shape_of(laying.parts[line.part], laying.field, line.x, line.y, line.colour)


def wrong_with_line(laying, lines, at, bare):
    """The least of what is wrong with the line of that number, or 0; bare is what the lines before it leave."""
    line = lines[at]
    if not is_laid_as_plate(laying, line):
        return NOT_LAID_AS_PLATE
    if at > 0 and not stands_behind(line, lines[at - 1]):
        return NOT_BEHIND_LINE_BEFORE
    shape = shape_of_line(laying, line)
    if shape == 0 or (shape & bare) != shape:
        return NOT_ON_ITS_PLACES
    return 0


def check_cover(laying, lines):
    """0 alone if these lines are a cover; else 1, what is wrong, and where."""
    bare = laying.coloured
    for at, line in enumerate(lines):
        wrong = wrong_with_line(laying, lines, at, bare)
        if wrong > 0:
            return [1, wrong, at]
        bare = bare - shape_of_line(laying, line)
    if bare > 0:
        return [1, PLACE_LEFT_BARE, least_place(bare)]
    return [0]
