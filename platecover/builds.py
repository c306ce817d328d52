"""Builds: their names and their text."""

from platecover.catalogues import LONGEST_PART_NAME
from platecover.reading import Reader, codes

MOST_LINES = 256
LONGEST_NAME = 16
GREATEST_COLOUR = 255
GREATEST_X = 63
GREATEST_Y = 63
GREATEST_Z = 95
GREATEST_TURNS = 3


class Line:
    """A line of a build: the number of its part, its colour, its place (x, y, z) and its turns."""

    def __init__(self, part, colour, place, turns):
        self.part = part
        self.colour = colour
        self.x = place[0]
        self.y = place[1]
        self.z = place[2]
        self.turns = turns


def is_build_name(s):
    """Whether a build may have this name."""
    reader = Reader(s)
    reader.take_name(LONGEST_NAME)
    reader.take_end()
    return not reader.stuck


def take_part(reader, parts):
    """Takes a part's name, and gives back the part's number; where none of these has it the reader is stuck."""
    name = reader.take_name(LONGEST_PART_NAME)
    numbers = [number for number, part in enumerate(parts) if part.name == name]
    if len(numbers) == 0:
        reader.stuck = True
        return 0
    return numbers[0]


def read_line(reader, parts):
    """Reads the text of one line of a build of these parts; where there is none the reader is stuck."""
    reader.take_signs("put ")
    part = take_part(reader, parts)
    reader.take_signs(" ")
    colour = reader.take_number_or_nought(GREATEST_COLOUR)
    reader.take_signs(" ")
    x = reader.take_number_or_nought(GREATEST_X)
    reader.take_signs(" ")
    y = reader.take_number_or_nought(GREATEST_Y)
    reader.take_signs(" ")
    z = reader.take_number_or_nought(GREATEST_Z)
    reader.take_signs(" ")
    turns = reader.take_number_or_nought(GREATEST_TURNS)
    reader.take_signs("\n")
    return Line(part, colour, (x, y, z), turns)


def read_build(reader, parts):
    """Reads a whole text as a build's of these parts: its lines; where it is none the reader is stuck."""
    reader.take_signs("build ")
    # No call asks for the name: it only has to be a right one.
    reader.take_name(LONGEST_NAME)
    reader.take_signs("\n")
    lines = []
    while len(lines) < MOST_LINES and reader.has_more():
        lines.append(read_line(reader, parts))
    reader.take_end()
    return lines


def line_text(parts, line):
    """The text of one line of a build of these parts."""
    colour = line.colour
    x = line.x
    y = line.y
    z = line.z
    turns = line.turns
    return codes("put ") + parts[line.part].name + codes(f" {colour} {x} {y} {z} {turns}\n")


def build_text(name, parts, lines):
    """The text of the build of that name with these lines, as bytes."""
    text = codes("build ") + name + codes("\n")
    for line in lines:
        text.extend(line_text(parts, line))
    return text
