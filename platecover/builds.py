"""Builds: their names and their text."""

from platecover.reading import Reader, codes

LONGEST_NAME = 16


class Line:
    """A line of a build: the number of its part, its colour, its place (x, y, z) and its turns."""

    def __init__(self, part, colour, place, turns):
        self.part = part
        self.colour = colour
        self.x = place[0]
        self.y = place[1]
        self.z = place[2]
        self.turns = turns


def is_build_name(s):
    """Whether a build may have this name."""
    reader = Reader(s)
    reader.take_name(LONGEST_NAME)
    reader.take_end()
    return not reader.stuck


def line_text(parts, line):
    """The text of one line of a build of these parts."""
    colour = line.colour
    x = line.x
    y = line.y
    z = line.z
    turns = line.turns
    return codes("put ") + parts[line.part].name + codes(f" {colour} {x} {y} {z} {turns}\n")


def build_text(name, parts, lines):
    """The text of the build of that name with these lines, as bytes."""
    text = codes("build ") + name + codes("\n")
    for line in lines:
        text.extend(line_text(parts, line))
    return text
