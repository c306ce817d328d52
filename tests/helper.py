"""What the tests share: makers of texts, lists that can't be changed, and answers worked out another way.

The expected answers here are drawn from the words of the document alone: they
share no code with the package and go about it differently on purpose.
"""

import random
import re
import unittest


def to_bytes(text):
    return list(text.encode("latin-1"))


class Untouchable(list):
    """A list that refuses every change, even one that would be taken back."""

    def refuse(self, *args, **kwargs):
        raise AssertionError("what was handed in was changed")

    __setitem__ = __delitem__ = __iadd__ = __imul__ = refuse
    append = extend = insert = remove = pop = clear = sort = reverse = refuse


def copied(value, kind):
    return kind(value) if isinstance(value, list) else value


def shown(value):
    return value if isinstance(value, int) or len(value) < 200 else value[:200] + ".."


class CallCase(unittest.TestCase):
    """Calls a function in every way that must make no difference, and looks at the answer."""

    call = None

    def answer(self, *given):
        function = type(self).call
        plain = [copied(value, list) for value in given]
        got = function(*plain)
        self.assertEqual(plain, [copied(value, list) for value in given], "what was handed in is another now")
        self.assertIs(type(got), list)
        self.assertEqual([int] * len(got), [type(number) for number in got])
        kept = list(got)
        got.append(77)
        untouchable = [copied(value, Untouchable) for value in given]
        self.assertEqual(kept, function(*untouchable), "the second answer is another")
        return kept

    def check(self, expected, *given):
        """Texts are handed in as their bytes, numbers as they are."""
        got = self.answer(*[to_bytes(value) if isinstance(value, str) else value for value in given])
        self.assertEqual(expected, got, [shown(value) for value in given])


# Fields

COLOURS = "0123456789"


def field_text(width, depth, rows):
    return f"field {width} {depth}\n" + "".join(row + "\n" for row in rows)


def field_forms():
    """Of each W and D the bytes that may stand at each place of the text."""
    forms = []
    for width in range(1, 7):
        for depth in range(1, 13):
            head = [sign for sign in f"field {width} {depth}\n"]
            forms.append(head + ([COLOURS + "."] * width + ["\n"]) * depth)
    return forms


FIELD_FORMS = field_forms()


def shared_length(text, form):
    length = 0
    while length < min(len(text), len(form)) and text[length] in form[length]:
        length += 1
    return length


def expected_judge(text):
    if len(text) > 16384:
        return [-2]
    lengths = [shared_length(text, form) for form in FIELD_FORMS]
    if any(len(text) == length == len(form) for length, form in zip(lengths, FIELD_FORMS)):
        rows = text.split("\n")[1:]
        return [sum(sign in COLOURS for row in rows for sign in row)]
    return [-10, max(lengths)]


# Catalogues

def part_text(name, layers, weight=1):
    """A part out of its layers from the bottom up, each a list of rows."""
    head = f"part {name} {len(layers[0][0])} {len(layers[0])} {len(layers)} {weight}\n"
    return head + "".join(row + "\n" for layer in layers for row in layer)


def full_part(name, width, depth, height=1, sign="b"):
    return part_text(name, [[sign * width] * depth] * height)


HEAD = re.compile(
    r"part ([a-z][a-z0-9]{0,7}) ([1-9]|1[0-6]) ([1-9]|1[0-6]) ([1-9]|1[0-8]) [1-9][0-9]{0,3}\n"
)


def split_catalogue(text):
    """The parts as (name, W, D, H, dict of cells by their place), or None if it's no catalogue's text."""
    parts = []
    at = 0
    while at < len(text):
        head = HEAD.match(text, at)
        if head is None:
            return None
        at = head.end()
        name, width, depth, height = head[1], int(head[2]), int(head[3]), int(head[4])
        cells = {}
        for z in range(height):
            for y in range(depth):
                row = text[at:at + width + 1]
                if re.fullmatch(r"[.#stb]{%d}\n" % width, row) is None:
                    return None
                cells.update({(x, y, z): row[x] for x in range(width) if row[x] != "."})
                at += width + 1
        parts.append((name, width, depth, height, cells))
    return parts if 1 <= len(parts) <= 64 else None


def faults_of_part(part):
    """Which of the points 1 to 4 the part breaks."""
    name, width, depth, height, cells = part
    faults = set()
    for (x, y, z), sign in cells.items():
        if sign in "sb" and (x, y, z + 1) in cells:
            faults.add(1)
        if sign in "tb" and (x, y, z - 1) in cells:
            faults.add(2)
    for axis, size in enumerate((width, depth, height)):
        if not {0, size - 1} <= {place[axis] for place in cells}:
            faults.add(3)
    groups = {place: place for place in cells}

    def root(place):
        while groups[place] != place:
            place = groups[place]
        return place

    for x, y, z in cells:
        for other in ((x + 1, y, z), (x, y + 1, z), (x, y, z + 1)):
            if other in cells:
                groups[root(other)] = root((x, y, z))
    if len({root(place) for place in cells}) != 1:
        faults.add(4)
    return faults


def faults_of_catalogue(parts):
    faults = set()
    for part in parts:
        faults |= faults_of_part(part)
    names = [part[0].encode() for part in parts]
    if names != sorted(set(names)):
        faults.add(5)
    return faults


def expected_plates(text):
    parts = split_catalogue(text)
    if parts is None:
        return [-6]
    if faults_of_catalogue(parts):
        return [-8]
    best = {}
    for number, (name, width, depth, height, cells) in reversed(list(enumerate(parts))):
        whole = list(cells.values()) == ["b"] * (width * depth)
        if height == 1 and width <= 6 and depth <= 4 and whole:
            best[width, depth] = number
    return sorted(best.values())


# Covers

ALL_SIZES = tuple((width, depth) for depth in range(1, 5) for width in range(1, 7))
NO_PLATE = part_text("a", [["#"]])


def catalogue_of(*sizes):
    """A catalogue of plates of these widths and depths, in this order."""
    return "".join(full_part(f"p{number:02d}", *size) for number, size in enumerate(sizes))


def field_of(*rows):
    return field_text(len(rows[0]), len(rows), rows)


def colours_of(f):
    """Of each coloured place (x, y) of a field its colour."""
    rows = f.split("\n")[1:-1]
    return {(x, y): int(sign) for y, row in enumerate(rows) for x, sign in enumerate(row) if sign != "."}


def sizes_of_plates(c):
    """Of each plate's number its width and depth."""
    parts = split_catalogue(c)
    return {number: parts[number][1:3] for number in expected_plates(c)}


def laid(size, x, y):
    """The places under a plate whose corner is at (x, y)."""
    return [(x + dx, y + dy) for dx in range(size[0]) for dy in range(size[1])]


def ways_from_the_back(sizes, colours):
    """All sets of lines (y, x, part, colour) on these places: the last place goes under some plate, and so on."""
    if not colours:
        yield []
        return
    last_x, last_y = max(colours, key=lambda place: (place[1], place[0]))
    colour = colours[last_x, last_y]
    for part, size in sizes.items():
        x, y = last_x - size[0] + 1, last_y - size[1] + 1
        under = laid(size, x, y)
        if all(colours.get(place) == colour for place in under):
            left = {place: value for place, value in colours.items() if place not in under}
            for lines in ways_from_the_back(sizes, left):
                yield lines + [(y, x, part, colour)]


def ways_in_any_order(sizes, colours):
    """The same, found without any thought of which line comes first or last: any place may be looked at."""
    if not colours:
        return {frozenset()}
    some_x, some_y = sorted(colours)[len(colours) // 2]
    colour = colours[some_x, some_y]
    found = set()
    for part, size in sizes.items():
        for dx, dy in laid(size, 0, 0):
            x, y = some_x - dx, some_y - dy
            under = laid(size, x, y)
            if all(colours.get(place) == colour for place in under):
                left = {place: value for place, value in colours.items() if place not in under}
                for lines in ways_in_any_order(sizes, left):
                    found.add(lines | {(y, x, part, colour)})
    return found


def parts_of(cover):
    return [line[2] for line in cover]


def all_covers(c, f, ways=ways_in_any_order):
    """All covers, in order, each a list of lines (y, x, part, colour)."""
    covers = [sorted(lines) for lines in ways(sizes_of_plates(c), colours_of(f))]
    return sorted(covers, key=parts_of)


def cover_text(c, name, cover):
    names = [part[0] for part in split_catalogue(c)]
    lines = [f"put {names[part]} {colour} {x} {y} 0 0\n" for y, x, part, colour in cover]
    return f"build {name}\n" + "".join(lines)


def with_length(text):
    return [len(text)] + to_bytes(text)


def row_by_row(c, f):
    """How many lines a cover has at least (None if there's no cover), and how many covers there are.

    For fields with too many covers to go through. After each row it's known of
    each column how many more rows are covered already; a row is filled from the right.
    """
    width, depth = map(int, f.split("\n")[0].split()[1:])
    colours = colours_of(f)
    sizes = list(sizes_of_plates(c).values())
    found = {(0,) * width: (0, 1)}
    for y in range(depth):
        behind = {}
        for over, (fewest, count) in found.items():
            for after, lines in fillings(sizes, colours, over, y):
                before = behind.get(after, (999, 0))
                behind[after] = (min(before[0], fewest + lines), before[1] + count)
        found = behind
    return found.get((0,) * width, (None, 0))


def fillings(sizes, colours, over, y):
    """All ways to fill row y: what's covered of the rows behind it, and how many lines begin in it."""
    waiting = [((), len(over), 0)]
    done = []
    while waiting:
        right, x, lines = waiting.pop()
        if x == 0:
            done.append((right, lines))
        elif over[x - 1] > 0:
            waiting.append(((over[x - 1] - 1,) + right, x - 1, lines))
        elif (x - 1, y) not in colours:
            waiting.append(((0,) + right, x - 1, lines))
        else:
            for size in sizes:
                left = x - size[0]
                if left >= 0 and not any(over[left:x]):
                    if len({colours.get(place) for place in laid(size, left, y)}) == 1:
                        waiting.append(((size[1] - 1,) * size[0] + right, left, lines + 1))
    return done


def rest_of(f, colours):
    """The field with these places coloured alone."""
    width, depth = map(int, f.split("\n")[0].split()[1:])
    return field_of(*["".join(str(colours.get((x, y), ".")) for x in range(width)) for y in range(depth)])


def random_field(source, width, depth, signs):
    return field_of(*["".join(source.choices(signs, k=width)) for y in range(depth)])


def random_catalogue(source, sizes):
    """Plates of these sizes in some order, other parts between them, some of them twice."""
    texts = []
    for size in source.sample(sizes, len(sizes)):
        width, depth = size
        choice = source.random()
        if choice < 0.15:
            texts.append((size, "s"))
        texts.append((size, "b"))
        if choice > 0.85:
            texts.append((source.choice(sizes), "b"))
        if 0.4 < choice < 0.5:
            texts.append(((7, 1), "b"))
    return "".join(full_part(f"n{number:02d}", *size, 1, sign) for number, (size, sign) in enumerate(texts))


SMALL_SIZES = tuple((w, d) for w in range(1, 7) for d in range(1, 13) if w * d <= 12)


def small_cases(seed, turns):
    """Catalogues and fields that are small enough to go through all covers."""
    source = random.Random(seed)
    for turn in range(turns):
        width, depth = source.choice(SMALL_SIZES)
        signs = source.choice(("1", "0.", "9999.", "12", "1122.", "000001", "0123456789.", "77778."))
        fitting = [size for size in ALL_SIZES if size[0] <= width + 1 and size[1] <= depth + 1]
        sizes = source.sample(fitting, source.randint(1, min(7, len(fitting))))
        if source.random() < 0.6 and (1, 1) not in sizes:
            sizes.append((1, 1))
        yield random_catalogue(source, sizes), random_field(source, width, depth, signs)


# Builds

LINE = re.compile("put ([a-z][a-z0-9]*)" + " (0|[1-9][0-9]*)" * 5)


def split_build(c, b):
    """The lines (part, colour, x, y, z, r) of a build of the catalogue, or None if b is no build's text."""
    names = [part[0] for part in split_catalogue(c)]
    rows = b.split("\n")
    if rows[-1] != "" or len(rows) > 258 or re.fullmatch("build [a-z][a-z0-9]{0,15}", rows[0]) is None:
        return None
    lines = []
    for row in rows[1:-1]:
        found = LINE.fullmatch(row)
        if found is None or found[1] not in names:
            return None
        numbers = [int(found[k]) for k in range(2, 7)]
        if any(value > most for value, most in zip(numbers, (255, 63, 63, 95, 3))):
            return None
        lines.append((names.index(found[1]), *numbers))
    return lines


def faults_of_line(sizes, colours, lines, at):
    """Which of the points 1 to 3 the line breaks, those that can be told of it."""
    part, colour, x, y, z, r = lines[at]
    faults = set()
    if part not in sizes or z > 0 or r > 0:
        faults.add(1)
    if at > 0 and not (lines[at - 1][3], lines[at - 1][2]) < (y, x):
        faults.add(2)
    earlier = [place for line in lines[:at] if line[0] in sizes for place in laid(sizes[line[0]], line[2], line[3])]
    for place in laid(sizes.get(part, (1, 1)), x, y):
        if colours.get(place) != colour or place in earlier:
            faults.add(3)
    return faults


def expected_covers(c, f, b):
    """What covers answers, c and f being as they must be."""
    lines = split_build(c, b)
    if lines is None:
        return [-5]
    colours = colours_of(f)
    sizes = sizes_of_plates(c)
    for at in range(len(lines)):
        faults = faults_of_line(sizes, colours, lines, at)
        if faults:
            return [1, min(faults), at]
    width = int(f.split()[1])
    covered = [place for line in lines for place in laid(sizes[line[0]], line[2], line[3])]
    left = [width * y + x for x, y in colours if (x, y) not in covered]
    return [1, 4, min(left)] if left else [0]


def build_of(*lines, name="x"):
    """A build's text out of its lines, each told without `put`; z and r are 0 where they aren't told."""
    rows = [line if len(line.split()) == 6 else line + " 0 0" for line in lines]
    return f"build {name}\n" + "".join(f"put {row}\n" for row in rows)


# Names and refusals

NO_NAMES = (
    "", "0", "9", "1a", "A", "aB", "Aa", "a b", "a ", " a", "a\n", "\n", "a-", "a_", "_", ".", "\0", "a\0", "\xe4",
    "a\xff", "`", "{", "a{", "a/", "a:", "a@", "abcdefghijklmnopq", "a" * 17, "a1234567890123456", "a" * 40, "-" * 40,
)
NAMES = ("a", "z", "a0", "z9", "name", "abcdefghijklmnop", "a123456789012345", "put", "build", "zzzzzzzzzzzzzzzz")

ORDER = (-1, -2, -6, -8, -10, -5, -3)

# Of each argument what can be wrong with it, and the refusals that this alone would bring.
FAULTY_CATALOGUES = (
    (catalogue_of((1, 1)), ()),
    (NO_PLATE, (-3,)),
    (catalogue_of((1, 1)) + "x", (-6,)),
    ("", (-6,)),
    (part_text("a", [["."]]), (-8,)),
    (catalogue_of((1, 1)) + catalogue_of((1, 1)), (-8,)),
    (part_text("a", [["."]]) + "x", (-6, -8)),
)
TOO_LONG_CATALOGUE = catalogue_of((1, 1)) + "x" * 1048576
FAULTY_FIELDS = (
    (field_of("11", "1."), ()),
    ("field 2 2\n11\n1.", (-10,)),
    ("", (-10,)),
    ("field 7 1\n1111111\n", (-10,)),
    (field_of("11", "1.") + "\n" * 16384, (-2, -10)),
    ("\n" * 16384, (-10,)),
    ("\n" * 16385, (-2, -10)),
)
# They are no builds of some catalogues only: each of those above that are right has p00 or a.
FAULTY_BUILDS = (
    ("", (-5,)),
    ("build a\nput zz 1 0 0 0 0\n", (-5,)),
    ("build A\n", (-5,)),
    ("build a\n" * 2048, (-5,)),
    ("build a\n" * 2048 + "\n", (-2, -5)),
    ("build a\n".ljust(16500, "\n"), (-2, -5)),
)


def foremost(*refusals):
    """Of several refusals the one that's looked at first."""
    return [min((refusal for some in refusals for refusal in some), key=ORDER.index)]
