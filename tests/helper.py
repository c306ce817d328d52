"""What the tests share: makers of texts, lists that can't be changed, and answers worked out another way.

The expected answers here are drawn from the words of the document alone: they
share no code with the package and go about it differently on purpose.
"""

import re
import unittest


def to_bytes(text):
    return list(text.encode("latin-1"))


class Untouchable(list):
    """A list that refuses every change, even one that would be taken back."""

    def refuse(self, *args, **kwargs):
        raise AssertionError("what was handed in was changed")

    __setitem__ = __delitem__ = __iadd__ = __imul__ = refuse
    append = extend = insert = remove = pop = clear = sort = reverse = refuse


class CallCase(unittest.TestCase):
    """Calls a function in every way that must make no difference, and looks at the answer."""

    call = None

    def answer(self, given):
        function = type(self).call
        plain = list(given)
        got = function(plain)
        self.assertEqual(plain, list(given), "what was handed in is another now")
        self.assertIs(type(got), list)
        self.assertEqual([int] * len(got), [type(number) for number in got])
        kept = list(got)
        got.append(77)
        self.assertEqual(kept, function(Untouchable(given)), "the second answer is another")
        return kept

    def check(self, expected, text):
        shown = text if len(text) < 200 else text[:200] + ".."
        self.assertEqual(expected, self.answer(to_bytes(text)), repr(shown))


# Fields

COLOURS = "0123456789"


def field_text(width, depth, rows):
    return f"field {width} {depth}\n" + "".join(row + "\n" for row in rows)


def field_forms():
    """Of each W and D the bytes that may stand at each place of the text."""
    forms = []
    for width in range(1, 7):
        for depth in range(1, 13):
            head = [sign for sign in f"field {width} {depth}\n"]
            forms.append(head + ([COLOURS + "."] * width + ["\n"]) * depth)
    return forms


FIELD_FORMS = field_forms()


def shared_length(text, form):
    length = 0
    while length < min(len(text), len(form)) and text[length] in form[length]:
        length += 1
    return length


def expected_judge(text):
    if len(text) > 16384:
        return [-2]
    lengths = [shared_length(text, form) for form in FIELD_FORMS]
    if any(len(text) == length == len(form) for length, form in zip(lengths, FIELD_FORMS)):
        rows = text.split("\n")[1:]
        return [sum(sign in COLOURS for row in rows for sign in row)]
    return [-10, max(lengths)]


# Catalogues

def part_text(name, layers, weight=1):
    """A part out of its layers from the bottom up, each a list of rows."""
    head = f"part {name} {len(layers[0][0])} {len(layers[0])} {len(layers)} {weight}\n"
    return head + "".join(row + "\n" for layer in layers for row in layer)


def full_part(name, width, depth, height=1, sign="b"):
    return part_text(name, [[sign * width] * depth] * height)


HEAD = re.compile(
    r"part ([a-z][a-z0-9]{0,7}) ([1-9]|1[0-6]) ([1-9]|1[0-6]) ([1-9]|1[0-8]) [1-9][0-9]{0,3}\n"
)


def split_catalogue(text):
    """The parts as (name, W, D, H, dict of cells by their place), or None if it's no catalogue's text."""
    parts = []
    at = 0
    while at < len(text):
        head = HEAD.match(text, at)
        if head is None:
            return None
        at = head.end()
        name, width, depth, height = head[1], int(head[2]), int(head[3]), int(head[4])
        cells = {}
        for z in range(height):
            for y in range(depth):
                row = text[at:at + width + 1]
                if re.fullmatch(r"[.#stb]{%d}\n" % width, row) is None:
                    return None
                cells.update({(x, y, z): row[x] for x in range(width) if row[x] != "."})
                at += width + 1
        parts.append((name, width, depth, height, cells))
    return parts if 1 <= len(parts) <= 64 else None


def faults_of_part(part):
    """Which of the points 1 to 4 the part breaks."""
    name, width, depth, height, cells = part
    faults = set()
    for (x, y, z), sign in cells.items():
        if sign in "sb" and (x, y, z + 1) in cells:
            faults.add(1)
        if sign in "tb" and (x, y, z - 1) in cells:
            faults.add(2)
    for axis, size in enumerate((width, depth, height)):
        if not {0, size - 1} <= {place[axis] for place in cells}:
            faults.add(3)
    groups = {place: place for place in cells}

    def root(place):
        while groups[place] != place:
            place = groups[place]
        return place

    for x, y, z in cells:
        for other in ((x + 1, y, z), (x, y + 1, z), (x, y, z + 1)):
            if other in cells:
                groups[root(other)] = root((x, y, z))
    if len({root(place) for place in cells}) != 1:
        faults.add(4)
    return faults


def faults_of_catalogue(parts):
    faults = set()
    for part in parts:
        faults |= faults_of_part(part)
    names = [part[0].encode() for part in parts]
    if names != sorted(set(names)):
        faults.add(5)
    return faults


def expected_plates(text):
    parts = split_catalogue(text)
    if parts is None:
        return [-6]
    if faults_of_catalogue(parts):
        return [-8]
    best = {}
    for number, (name, width, depth, height, cells) in reversed(list(enumerate(parts))):
        whole = list(cells.values()) == ["b"] * (width * depth)
        if height == 1 and width <= 6 and depth <= 4 and whole:
            best[width, depth] = number
    return sorted(best.values())
