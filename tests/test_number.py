"""number(c, f, b): the number of the cover b, or the refusal."""

import itertools
import random
import time

from platecover.covers import number
from tests.helper import (
    ALL_SIZES, FAULTY_BUILDS, FAULTY_CATALOGUES, FAULTY_FIELDS, NAMES, NO_NAMES, NO_PLATE, TOO_LONG_CATALOGUE,
    CallCase, all_covers, build_of, catalogue_of, colours_of, cover_text, expected_covers, field_of, field_text,
    foremost, full_part, laid, part_text, random_catalogue, random_field, rest_of, row_by_row, sizes_of_plates,
    small_cases, to_bytes, ways_from_the_back,
)

ONE = catalogue_of((1, 1))
ALL = catalogue_of(*ALL_SIZES)
GREATEST = 1036674585391059026595964


class NumberCase(CallCase):
    call = number


class ByHand(NumberCase):
    def test_one_place(self):
        for colour in "0123456789":
            self.check([0], ONE, field_of(colour), build_of(f"p00 {colour} 0 0"))
        self.check([0], ONE, field_of(*["......"] * 11 + [".....8"]), build_of("p00 8 5 11"))

    def test_no_coloured_place(self):
        for c in (ONE, ALL, NO_PLATE):
            for width, depth in ((1, 1), (6, 1), (1, 12), (6, 12)):
                self.check([0], c, field_text(width, depth, ["." * width] * depth), "build a\n")

    def test_a_row_of_three(self):
        ways = (["p00 1 0 0", "p00 1 1 0", "p00 1 2 0"], ["p00 1 0 0", "p01 1 1 0"], ["p01 1 0 0", "p00 1 2 0"],
                ["p02 1 0 0"])
        for at, lines in enumerate(ways):
            self.check([at], catalogue_of((1, 1), (2, 1), (3, 1)), field_of("111"), build_of(*lines))
        ways = (["p00 1 0 0"], ["p01 1 0 0", "p02 1 2 0"], ["p02 1 0 0", "p01 1 1 0"],
                ["p02 1 0 0", "p02 1 1 0", "p02 1 2 0"])
        for at, lines in enumerate(ways):
            self.check([at], catalogue_of((3, 1), (2, 1), (1, 1)), field_of("111"), build_of(*lines))

    def test_two_colours_and_a_gap(self):
        ways = (
            ["p00 1 0 0", "p00 2 2 0", "p02 1 1 1"],
            ["p00 1 0 0", "p02 2 2 0", "p02 1 1 1", "p02 2 2 1"],
            ["p02 1 0 0", "p00 2 2 0", "p01 1 0 1"],
            ["p02 1 0 0", "p00 2 2 0", "p02 1 0 1", "p02 1 1 1"],
            ["p02 1 0 0", "p02 2 2 0", "p01 1 0 1", "p02 2 2 1"],
            ["p02 1 0 0", "p02 2 2 0", "p02 1 0 1", "p02 1 1 1", "p02 2 2 1"],
        )
        for at, lines in enumerate(ways):
            self.check([at], catalogue_of((1, 2), (2, 1), (1, 1)), field_of("1.2", "112"), build_of(*lines))

    def test_ways_that_lead_nowhere_have_no_number(self):
        self.check([0], catalogue_of((3, 1), (2, 1)), field_of("1111"), build_of("p01 1 0 0", "p01 1 2 0"))

    def test_the_name_aside(self):
        for name in NAMES:
            self.check([1], catalogue_of((1, 1), (2, 1)), field_of("11"), build_of("p01 1 0 0", name=name))

    def test_the_greatest_field(self):
        f = field_of(*["111111"] * 12)
        ones = [f"p00 1 {x} {y}" for y in range(12) for x in range(6)]
        self.check([0], ALL, f, build_of(*ones))
        self.check([1], ALL, f, build_of(*ones[:-2], "p01 1 4 11"))
        self.check([GREATEST - 1], ALL, f, build_of("p23 1 0 0", "p23 1 0 4", "p23 1 0 8"))

    def test_numbers_that_go_as_figures_do(self):
        # Rows in colours of their own: each has 2 to the 5th ways, one for each choice of where a plate ends.
        f = field_of(*[figure * 6 for figure in "012345678901"])
        ways = all_covers(ALL, field_of("111111"))
        self.assertEqual(32, len(ways))
        source = random.Random(61)
        for i in [0, 1, 31, 32, 32 ** 12 - 1] + [source.randrange(32 ** 12) for turn in range(30)]:
            cover = []
            for row in range(12):
                way = ways[i // 32 ** (11 - row) % 32]
                cover.extend((row, x, part, row % 10) for y, x, part, colour in way)
            self.check([i], ALL, f, cover_text(ALL, "n", cover))


class AllCoversGoneThrough(NumberCase):
    def test_small_fields(self):
        told = 0
        for c, f in small_cases(62, 500):
            covers = all_covers(c, f, ways_from_the_back)
            if len(covers) <= 60:
                for i, cover in enumerate(covers):
                    self.check([i], c, f, cover_text(c, "n", cover))
                    self.check([i], c, f, cover_text(c, "another1name", cover))
                    told += 1
        self.assertGreater(told, 1200)

    def test_hundreds_of_covers(self):
        for f in (field_of("111", "111", "111"), field_of(*["11"] * 4), field_of("0000", "0..0", "0000")):
            covers = all_covers(ALL, f)
            self.assertGreater(len(covers), 100)
            for i, cover in enumerate(covers):
                self.assertEqual([i], number(to_bytes(ALL), to_bytes(f), to_bytes(cover_text(ALL, "n", cover))))


class GreatFields(NumberCase):
    """There are too many covers to go through, but what is left of a field is a field."""

    def some_cover(self, source, c, f):
        """A cover, and its number, by counting those before it."""
        colours = colours_of(f)
        sizes = sizes_of_plates(c)
        cover = []
        before = 0
        while colours:
            x, y = min(colours, key=lambda place: (place[1], place[0]))
            choices = []
            for part in sorted(sizes):
                under = laid(sizes[part], x, y)
                if all(colours.get(place) == colours[x, y] for place in under):
                    left = {place: value for place, value in colours.items() if place not in under}
                    choices.append((part, left))
            at = source.randrange(len(choices))
            before += sum(row_by_row(c, rest_of(f, left))[1] for part, left in choices[:at])
            cover.append((y, x, choices[at][0], colours[x, y]))
            colours = choices[at][1]
        return cover, before

    def test_great_numbers(self):
        source = random.Random(63)
        greatest = 0
        for turn in range(30):
            among = [size for size in ALL_SIZES if max(size) <= 3] if turn % 2 else ALL_SIZES
            c = random_catalogue(source, sorted({(1, 1), *source.sample(among, source.randint(2, 5))}))
            signs = source.choice(("1", "111111111.", "0000000000000001", "12", "5555555555556."))
            f = random_field(source, source.randint(3, 5), source.randint(4, 8), signs)
            cover, expected = self.some_cover(source, c, f)
            greatest = max(greatest, expected)
            self.check([expected], c, f, cover_text(c, "n", cover))
        self.assertGreater(greatest, 10 ** 6)


class NoCover(NumberCase):
    c = catalogue_of((1, 1), (2, 1), (1, 1)) + part_text("p03", [["s"]])
    f = field_of("11", "1.")

    def test_each_thing_that_is_wrong(self):
        for wrong, lines in (
            (1, ["p02 1 0 0", "p00 1 1 0", "p00 1 0 1"]), (1, ["p03 1 0 0", "p00 1 1 0", "p00 1 0 1"]),
            (1, ["p01 1 0 0 1 0", "p00 1 0 1"]), (1, ["p01 1 0 0 0 2", "p00 1 0 1"]),
            (1, ["p01 1 0 0", "p00 1 0 1 95 0"]),
            (2, ["p00 1 1 0", "p00 1 0 0", "p00 1 0 1"]), (2, ["p00 1 0 1", "p01 1 0 0"]),
            (2, ["p01 1 0 0", "p01 1 0 0", "p00 1 0 1"]), (2, ["p01 1 0 0", "p00 1 0 1", "p00 1 0 1"]),
            (3, ["p01 1 0 0", "p01 1 0 1"]), (3, ["p00 1 0 0", "p01 1 1 0", "p00 1 0 1"]),
            (3, ["p01 2 0 0", "p00 1 0 1"]), (3, ["p01 1 0 0", "p00 11 0 1"]),
            (3, ["p01 1 0 0", "p00 1 0 1", "p00 1 1 1"]),
            (3, ["p01 1 0 0", "p00 1 1 0", "p00 1 0 1"]), (3, ["p01 1 0 0", "p00 1 0 1", "p00 1 0 2"]),
            (4, []), (4, ["p01 1 0 0"]), (4, ["p00 1 0 1"]), (4, ["p00 1 0 0", "p00 1 0 1"]),
        ):
            b = build_of(*lines)
            self.assertEqual([1, wrong], expected_covers(self.c, self.f, b)[:2])
            self.check([-3], self.c, self.f, b)
        self.check([1], self.c, self.f, build_of("p01 1 0 0", "p00 1 0 1"))

    def test_a_cover_of_another_field(self):
        b = build_of("p00 1 0 0", "p00 1 1 0")
        self.check([0], self.c, field_of("11"), b)
        for f in (field_of("12"), field_of("1."), field_of("1", "1"), field_of("111"), field_of(".."), field_of("1")):
            self.check([-3], self.c, f, b)

    def test_no_plates(self):
        self.check([-3], NO_PLATE, field_of("1"), build_of("a 1 0 0"))
        self.check([-3], NO_PLATE, field_of("."), build_of("a 1 0 0"))
        self.check([-3], NO_PLATE, field_of("1"), "build a\n")

    def test_small_fields_with_all_lines(self):
        c = catalogue_of((1, 1), (2, 1))
        lines = [f"p0{part} {colour} {x} {y}" for part in (0, 1) for colour in (1, 2) for x in (0, 1) for y in (0, 1)]
        numbers = []
        for count in range(4):
            for some in itertools.product(lines, repeat=count):
                b = build_of(*some)
                got = number(to_bytes(c), to_bytes(field_of("11", "2.")), to_bytes(b))
                self.assertEqual(expected_covers(c, field_of("11", "2."), b) == [0], got != [-3])
                if got != [-3]:
                    numbers.extend(got)
        self.assertEqual([0, 1], sorted(numbers))


class Refused(NumberCase):
    def test_each_refusal_and_their_order(self):
        builds = FAULTY_BUILDS + (("build a\n", (-3,)),)
        for (c, of_catalogue), (f, of_field), (b, of_build) in itertools.product(
                FAULTY_CATALOGUES, FAULTY_FIELDS, builds):
            self.check(foremost(of_catalogue, of_field, of_build), c, f, b)

    def test_a_catalogue_that_is_too_long(self):
        # More than the interface lets be handed in; the calls' words name it all the same.
        self.check([-2], TOO_LONG_CATALOGUE, field_of("1"), "build a\n")
        self.check([-2], TOO_LONG_CATALOGUE, "", "")
        self.check([-6], TOO_LONG_CATALOGUE[:1048576], field_of("1"), "build a\n")

    def test_lengths(self):
        for length, of_build, of_field in ((16383, -5, -10), (16384, -5, -10), (16385, -2, -2), (16500, -2, -2)):
            self.check([of_build], ONE, field_of("1"), build_of("p00 1 0 0").ljust(length, "\n"))
            self.check([of_build], ONE, field_of("1"), "x" * length)
            self.check([of_field], ONE, field_of("1").ljust(length, "\n"), build_of("p00 1 0 0"))

    def test_builds_that_are_none(self):
        b = build_of("p01 1 0 0", "p00 1 0 1")
        c = catalogue_of((1, 1), (2, 1))
        f = field_of("11", "1.")
        self.check([1], c, f, b)
        for length in range(len(b)):
            at_end = length in (len("build x\n"), len(build_of("p01 1 0 0")))
            self.check([-3] if at_end else [-5], c, f, b[:length])
        for name in NO_NAMES:
            self.check([-5], c, field_of("."), f"build {name}\n")
        for line in ("p02 1 0 0 0 0", "p0 1 0 0 0 0", "p000 1 0 0 0 0", "p00 256 0 0 0 0", "p00 1 64 0 0 0",
                     "p00 1 0 64 0 0", "p00 1 0 0 96 0", "p00 1 0 0 0 4", "p00 01 0 0 0 0", "p00 1 00 0 0 0",
                     "p00 1 0 0 0", "p00 1 0 0 0 0 0"):
            self.check([-5], c, f, f"build x\nput {line}\n")
        for line in ("p00 255 0 0 0 0", "p00 1 63 0 0 0", "p00 1 0 63 0 0", "p00 1 0 0 95 0", "p00 1 0 0 0 3"):
            self.check([-3], c, f, f"build x\nput {line}\n")

    def test_256_and_257_lines(self):
        self.check([-3], ONE, field_of("1"), build_of(*["p00 1 0 0"] * 256))
        self.check([-5], ONE, field_of("1"), build_of(*["p00 1 0 0"] * 257))


class EachCallByItself(NumberCase):
    def test_other_calls_between(self):
        c = catalogue_of((1, 1), (2, 1))
        given = [(c, field_of("11"), build_of("p01 1 0 0")), (c, field_of("11"), build_of("p00 1 0 0", "p00 1 1 0")),
                 (c, field_of("11"), build_of("p00 1 0 0")),
                 (full_part("p01", 2, 1), field_of("11"), build_of("p01 1 0 0")),
                 (c, field_of("11"), ""), (c, "", ""), ("", "", ""), (c, field_of("."), "build a\n")]
        bare = [[to_bytes(value) for value in some] for some in given]
        forth = [number(*some) for some in bare]
        back = [number(*some) for some in reversed(bare)]
        self.assertEqual([[1], [0], [-3], [0], [-5], [-10], [-6], [0]], forth)
        self.assertEqual(forth, back[::-1])


class InSeconds(NumberCase):
    def test_the_greatest_field_and_256_lines(self):
        f = field_of(*["111111"] * 12)
        ones = [f"p00 1 {x} {y}" for y in range(12) for x in range(6)]
        outside = [f"p00 1 {k % 60} {12 + k // 60}" for k in range(184)]
        for lines in (["p23 1 0 0", "p23 1 0 4", "p23 1 0 8"], ones, ones + outside):
            start = time.process_time()
            number(to_bytes(ALL), to_bytes(f), to_bytes(build_of(*lines)))
            self.assertLess(time.process_time() - start, 10)
