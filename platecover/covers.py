"""The calls of the library: bytes in, a list of numbers out."""

from platecover.builds import build_text, is_build_name, read_build
from platecover.catalogues import is_right_catalogue, plate_numbers, read_catalogue
from platecover.checking import check_cover
from platecover.fields import coloured_places, read_field
from platecover.laying import Laying, cover_counts, fewest_lines, first_of_fewest, nth_cover, number_of_cover
from platecover.reading import Reader

LONGEST_CATALOGUE = 1048576
LONGEST_FIELD = 16384
LONGEST_BUILD = 16384

NO_NAME = -1
TOO_LONG = -2
NO_COVER = -3
NO_BUILD = -5
NO_CATALOGUE = -6
CATALOGUE_NOT_RIGHT = -8
NO_FIELD = -10


class Given:
    """What was handed in, as it was read: a catalogue's parts, a field, a build's lines; None is what wasn't.

    If it is refused there is the refusal alone; else that is 0.
    """

    def __init__(self, refusal, parts, field, lines):
        self.refusal = refusal
        self.parts = parts
        self.field = field
        self.lines = lines


def refused(refusal):
    """What is given if it is refused by this number."""
    return Given(refusal, None, None, None)


def read_right_catalogue(c):
    """The parts of the catalogue whose text is c; or why c is refused."""
    if len(c) > LONGEST_CATALOGUE:
        return refused(TOO_LONG)
    reader = Reader(c)
    parts = read_catalogue(reader)
    if reader.stuck:
        return refused(NO_CATALOGUE)
    if not is_right_catalogue(parts):
        return refused(CATALOGUE_NOT_RIGHT)
    return Given(0, parts, None, None)


def read_given(c, f):
    """The catalogue's parts and the field whose texts are c and f; or why they are refused."""
    if len(f) > LONGEST_FIELD:
        return refused(TOO_LONG)
    given = read_right_catalogue(c)
    if given.refusal < 0:
        return given
    reader = Reader(f)
    field = read_field(reader)
    if reader.stuck:
        return refused(NO_FIELD)
    return Given(0, given.parts, field, None)


def read_given_build(c, f, b):
    """The catalogue's parts, the field and the build's lines whose texts are c, f and b; or why they are refused."""
    if len(b) > LONGEST_BUILD:
        return refused(TOO_LONG)
    given = read_given(c, f)
    if given.refusal < 0:
        return given
    reader = Reader(b)
    lines = read_build(reader, given.parts)
    if reader.stuck:
        return refused(NO_BUILD)
    return Given(0, given.parts, given.field, lines)


def told_text(text):
    """The answer that tells a text: how many bytes it has, and then these."""
    return [len(text)] + text


def judge(f):
    """How many places of the field have a colour; or why f is refused, with the fault if it is no field's text."""
    if len(f) > LONGEST_FIELD:
        return [TOO_LONG]
    reader = Reader(f)
    field = read_field(reader)
    if reader.stuck:
        return [NO_FIELD, reader.at]
    return [coloured_places(field)]


def plates(c):
    """The numbers of the catalogue's plates, rising; or why c is refused."""
    given = read_right_catalogue(c)
    if given.refusal < 0:
        return [given.refusal]
    return plate_numbers(given.parts)


def fewest(c, f):
    """The fewest lines that a cover of the field has; or the refusal."""
    given = read_given(c, f)
    if given.refusal < 0:
        return [given.refusal]
    laying = Laying(given.parts, given.field)
    lines = fewest_lines(laying)
    if laying.coloured not in lines:
        return [NO_COVER]
    return [lines[laying.coloured]]


def first(c, f, s):
    """How long the text of the first of the covers with the fewest lines is, and the text; or the refusal."""
    if not is_build_name(s):
        return [NO_NAME]
    given = read_given(c, f)
    if given.refusal < 0:
        return [given.refusal]
    laying = Laying(given.parts, given.field)
    lines = fewest_lines(laying)
    if laying.coloured not in lines:
        return [NO_COVER]
    return told_text(build_text(s, given.parts, first_of_fewest(laying, lines)))


def count(c, f):
    """How many covers of the field there are; or the refusal."""
    given = read_given(c, f)
    if given.refusal < 0:
        return [given.refusal]
    laying = Laying(given.parts, given.field)
    return [cover_counts(laying)[laying.coloured]]


def nth(i, c, f, s):
    """How long the text of cover i is, and the text; or the refusal."""
    if not is_build_name(s):
        return [NO_NAME]
    given = read_given(c, f)
    if given.refusal < 0:
        return [given.refusal]
    laying = Laying(given.parts, given.field)
    counts = cover_counts(laying)
    if i >= counts[laying.coloured]:
        return [NO_COVER]
    return told_text(build_text(s, given.parts, nth_cover(laying, counts, i)))


def number(c, f, b):
    """The number of the cover whose text is b; or the refusal."""
    given = read_given_build(c, f, b)
    if given.refusal < 0:
        return [given.refusal]
    laying = Laying(given.parts, given.field)
    if check_cover(laying, given.lines) != [0]:
        return [NO_COVER]
    return [number_of_cover(laying, cover_counts(laying), given.lines)]


def covers(c, f, b):
    """0 alone if b is a cover's text; else 1, what is wrong, and where; or the refusal."""
    given = read_given_build(c, f, b)
    if given.refusal < 0:
        return [given.refusal]
    return check_cover(Laying(given.parts, given.field), given.lines)
