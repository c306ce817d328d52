"""covers(c, f, b): whether b is a cover, and if not, what is wrong and where; or the refusal."""

import itertools
import random
import time

from platecover.covers import covers
from tests.helper import (
    ALL_SIZES, FAULTY_BUILDS, FAULTY_CATALOGUES, FAULTY_FIELDS, NAMES, NO_NAMES, NO_PLATE, TOO_LONG_CATALOGUE,
    CallCase, all_covers, build_of, catalogue_of, colours_of, cover_text, expected_covers, field_of, field_text,
    foremost, full_part, laid, part_text, random_catalogue, random_field, sizes_of_plates, small_cases, to_bytes,
    ways_from_the_back,
)

ONE = catalogue_of((1, 1))
ALL = catalogue_of(*ALL_SIZES)
# p00 and p01 are plates; p02 is one of p00's size; the others are no plates for other reasons.
SAMPLE = (
    catalogue_of((1, 1), (2, 1), (1, 1)) + part_text("p03", [["s"]]) + part_text("p04", [["t"], ["s"]])
    + full_part("p05", 7, 1)
)


class CoversCase(CallCase):
    call = covers

    def check_both(self, expected, c, f, b):
        """Told by hand, and by the words gone through apart."""
        self.assertEqual(expected, expected_covers(c, f, b))
        self.check(expected, c, f, b)


class Covers(CoversCase):
    def test_no_coloured_place_and_no_line(self):
        for c in (ONE, ALL, NO_PLATE, SAMPLE):
            for width, depth in ((1, 1), (6, 1), (1, 12), (3, 4), (6, 12)):
                f = field_text(width, depth, ["." * width] * depth)
                self.check_both([0], c, f, "build a\n")
                self.check_both([0], c, f, "build abcdefghijklmnop\n")

    def test_one_place(self):
        for colour in "0123456789":
            self.check_both([0], ONE, field_of(colour), build_of(f"p00 {colour} 0 0"))
        self.check_both([0], ONE, field_of(*["......"] * 11 + [".....8"]), build_of("p00 8 5 11"))

    def test_several_covers_of_one_field(self):
        f = field_of("113", ".13")
        for lines in (
            ["p00 1 0 0", "p00 1 1 0", "p00 3 2 0", "p00 1 1 1", "p00 3 2 1"],
            ["p01 1 0 0", "p00 3 2 0", "p00 1 1 1", "p00 3 2 1"],
            ["p01 1 0 0", "p02 3 2 0", "p00 1 1 1"],
            ["p00 1 0 0", "p02 1 1 0", "p02 3 2 0"],
            ["p00 1 0 0", "p02 1 1 0", "p00 3 2 0", "p00 3 2 1"],
            ["p00 1 0 0", "p00 1 1 0", "p02 3 2 0", "p00 1 1 1"],
        ):
            self.check_both([0], catalogue_of((1, 1), (2, 1), (1, 2)), f, build_of(*lines))

    def test_the_name_is_none_of_its_business(self):
        for name in NAMES:
            self.check_both([0], ONE, field_of("1"), build_of("p00 1 0 0", name=name))

    def test_the_greatest_field(self):
        f = field_of(*["666666"] * 12)
        self.check_both([0], ALL, f, build_of("p23 6 0 0", "p23 6 0 4", "p23 6 0 8"))
        self.check_both([0], ALL, f, build_of(*[f"p00 6 {x} {y}" for y in range(12) for x in range(6)]))
        self.check_both([0], ALL, f, build_of(*[f"p18 6 {x} {y}" for y in (0, 4, 8) for x in range(6)]))

    def test_all_covers_of_small_fields(self):
        told = 0
        for c, f in small_cases(51, 400):
            for cover in all_covers(c, f, ways_from_the_back)[:40]:
                self.check_both([0], c, f, cover_text(c, "n", cover))
                told += 1
        self.assertGreater(told, 1000)


class Wrong1(CoversCase):
    f = field_of("11", "11")

    def check_each(self, line):
        """The line is wrong, and is the first one, the second or the last."""
        self.check_both([1, 1, 0], SAMPLE, self.f, build_of(line))
        self.check_both([1, 1, 0], SAMPLE, self.f, build_of(line, "p01 1 0 1"))
        x, y = line.split()[2:4]
        if (x, y) == ("1", "0"):
            self.check_both([1, 1, 1], SAMPLE, self.f, build_of("p00 1 0 0", line, "p01 1 0 1"))
        if (x, y) == ("1", "1"):
            self.check_both([1, 1, 2], SAMPLE, self.f, build_of("p01 1 0 0", "p00 1 0 1", line))

    def test_no_plate(self):
        for part in ("p02", "p03", "p04", "p05"):
            for place in ("0 0", "1 0", "1 1"):
                self.check_each(f"{part} 1 {place}")

    def test_a_second_one_of_a_size(self):
        c = full_part("a", 2, 2) + full_part("b", 2, 2)
        self.check_both([0], c, self.f, build_of("a 1 0 0"))
        self.check_both([1, 1, 0], c, self.f, build_of("b 1 0 0"))

    def test_too_great_for_a_plate(self):
        c = full_part("a", 1, 5) + full_part("b", 1, 1)
        self.check_both([1, 1, 0], c, field_of(*"11111"), build_of("a 1 0 0"))

    def test_z(self):
        for z in (1, 2, 9, 10, 95):
            for place in ("0 0", "1 0", "1 1"):
                self.check_each(f"p00 1 {place} {z} 0")

    def test_turns(self):
        for r in (1, 2, 3):
            for place in ("0 0", "1 0", "1 1"):
                self.check_each(f"p00 1 {place} 0 {r}")
        self.check_both([1, 1, 0], SAMPLE, self.f, build_of("p01 1 0 0 0 2", "p01 1 0 1"))

    def test_with_all_else_wrong_too(self):
        self.check_both([1, 1, 0], SAMPLE, self.f, build_of("p03 200 63 63 95 3"))
        self.check_both([1, 1, 1], SAMPLE, self.f, build_of("p00 1 0 0", "p03 2 0 0 1 1"))
        self.check_both([1, 1, 1], SAMPLE, self.f, build_of("p00 1 0 0", "p00 2 0 0 1 0"))
        self.check_both([1, 1, 1], SAMPLE, self.f, build_of("p00 1 1 0", "p00 2 0 0 0 1"))

    def test_a_field_without_coloured_places(self):
        self.check_both([1, 1, 0], NO_PLATE, field_of("."), build_of("a 0 0 0"))


class Wrong2(CoversCase):
    f = field_of("111", "111")

    def test_the_same_place(self):
        self.check_both([1, 2, 1], SAMPLE, self.f, build_of("p00 1 0 0", "p00 1 0 0"))
        self.check_both([1, 2, 1], SAMPLE, self.f, build_of("p00 1 0 0", "p01 1 0 0"))
        self.check_both([1, 2, 2], SAMPLE, self.f, build_of("p00 1 0 0", "p01 1 1 0", "p00 1 1 0"))

    def test_ahead_in_the_row(self):
        self.check_both([1, 2, 1], SAMPLE, self.f, build_of("p01 1 1 0", "p00 1 0 0", "p01 1 0 1", "p00 1 2 1"))
        self.check_both([1, 2, 3], SAMPLE, self.f, build_of("p01 1 0 0", "p00 1 2 0", "p00 1 2 1", "p01 1 0 1"))

    def test_in_a_row_ahead(self):
        self.check_both([1, 2, 1], SAMPLE, self.f, build_of("p01 1 0 1", "p00 1 2 0"))
        self.check_both([1, 2, 1], SAMPLE, self.f, build_of("p00 1 0 1", "p00 1 0 0"))
        self.check_both([1, 2, 2], SAMPLE, self.f, build_of("p01 1 0 0", "p01 1 0 1", "p00 1 2 0", "p00 1 2 1"))

    def test_behind_by_x_but_not_by_y_and_the_other_way_round(self):
        lines = ["p01 1 0 0", "p00 1 2 0", "p01 1 0 1", "p00 1 2 1"]
        self.check_both([0], SAMPLE, self.f, build_of(*lines))
        for order in itertools.permutations(lines):
            if list(order) != lines:
                at = min(k for k in range(1, 4) if lines.index(order[k]) < lines.index(order[k - 1]))
                self.check_both([1, 2, at], SAMPLE, self.f, build_of(*order))

    def test_ahead_of_an_earlier_line_but_behind_the_one_before_it(self):
        # The second line is told, though the third is ahead of the first too.
        self.check_both([1, 2, 1], SAMPLE, self.f, build_of("p00 1 0 1", "p00 1 0 0", "p00 1 1 0"))

    def test_wrong_by_3_too(self):
        self.check_both([1, 2, 1], SAMPLE, self.f, build_of("p00 1 1 0", "p00 2 0 0"))
        self.check_both([1, 2, 1], SAMPLE, self.f, build_of("p00 1 1 0", "p01 1 0 0"))
        self.check_both([1, 2, 1], SAMPLE, self.f, build_of("p00 1 1 1", "p00 1 63 0"))


class Wrong3(CoversCase):
    def test_cells_outside_the_field(self):
        f = field_of("111", "111")
        for line in ("p00 1 3 0", "p01 1 2 0", "p01 1 2 1", "p00 1 0 2", "p00 1 63 63", "p00 1 63 0", "p00 1 0 63",
                     "p01 1 63 1", "p00 1 6 0", "p00 1 4 0"):
            self.check_both([1, 3, 0], SAMPLE, f, build_of(line))
            self.check_both([1, 3, 1], SAMPLE, f, build_of("p00 1 0 0", line))
        self.check_both([1, 3, 0], catalogue_of((1, 2)), f, build_of("p00 1 0 1"))
        self.check_both([1, 3, 0], catalogue_of((6, 4)), f, build_of("p00 1 0 0"))

    def test_places_without_a_colour(self):
        f = field_of("1.1", ".11")
        for line in ("p00 1 1 0", "p01 1 0 0", "p01 1 1 0", "p00 1 0 1", "p01 1 0 1"):
            self.check_both([1, 3, 0], SAMPLE, f, build_of(line))
        self.check_both([1, 3, 0], SAMPLE, field_of("."), build_of("p00 0 0 0"))
        self.check_both([1, 3, 0], SAMPLE, field_of("."), build_of("p00 254 0 0"))
        self.check_both([1, 3, 1], SAMPLE, f, build_of("p00 1 0 0", "p00 1 1 0"))

    def test_another_colour(self):
        f = field_of("12", "21")
        self.check_both([1, 3, 0], SAMPLE, f, build_of("p00 2 0 0"))
        self.check_both([1, 3, 0], SAMPLE, f, build_of("p01 1 0 0"))
        self.check_both([1, 3, 0], SAMPLE, f, build_of("p01 2 0 0"))
        self.check_both([1, 3, 2], SAMPLE, f, build_of("p00 1 0 0", "p00 2 1 0", "p01 2 0 1"))
        self.check_both([1, 3, 3], SAMPLE, f, build_of("p00 1 0 0", "p00 2 1 0", "p00 2 0 1", "p00 2 1 1"))

    def test_a_colour_above_9(self):
        for figure in "0123456789":
            for colour in range(256):
                expected = [0] if colour == int(figure) else [1, 3, 0]
                self.check(expected, ONE, field_of(figure), build_of(f"p00 {colour} 0 0"))
        for colour in range(256):
            self.check([1, 3, 0], ONE, field_of("."), build_of(f"p00 {colour} 0 0"))

    def test_on_a_place_of_an_earlier_line(self):
        f = field_of("1111", "1111")
        self.check_both([1, 3, 1], SAMPLE, f, build_of("p01 1 0 0", "p00 1 1 0"))
        self.check_both([1, 3, 1], SAMPLE, f, build_of("p01 1 0 0", "p01 1 1 0"))
        self.check_both([1, 3, 2], SAMPLE, f, build_of("p01 1 0 0", "p01 1 2 0", "p00 1 3 0"))
        c = catalogue_of((1, 2), (1, 1), (2, 2))
        self.check_both([1, 3, 4], c, f, build_of("p00 1 0 0", "p01 1 1 0", "p01 1 2 0", "p01 1 3 0", "p01 1 0 1"))
        self.check_both([1, 3, 2], c, f, build_of("p02 1 0 0", "p02 1 2 0", "p01 1 3 1"))
        self.check_both([1, 3, 1], c, f, build_of("p02 1 1 0", "p01 1 2 1"))

    def test_each_cell_on_another_colour(self):
        for width, depth in ALL_SIZES:
            for at in range(width * depth):
                places = "1" * at + "2" + "1" * (width * depth - at - 1)
                f = field_of(*[places[k:k + width] for k in range(0, width * depth, width)])
                self.check([1, 3, 0], ALL, f, build_of(f"p{(depth - 1) * 6 + width - 1:02d} 1 0 0"))


class Wrong4(CoversCase):
    def test_no_line_at_all(self):
        for width, depth in ((1, 1), (6, 1), (1, 12), (6, 12)):
            for at in range(width * depth):
                places = "." * at + "1" * (width * depth - at)
                f = field_text(width, depth, [places[k:k + width] for k in range(0, width * depth, width)])
                self.check([1, 4, at], ONE, f, "build a\n")
        self.check_both([1, 4, 0], NO_PLATE, field_of("1"), "build a\n")

    def test_one_line_less(self):
        f = field_of("112", ".12", "332")
        lines = ["p00 1 0 0", "p00 1 1 0", "p00 2 2 0", "p00 1 1 1", "p00 2 2 1", "p01 3 0 2", "p00 2 2 2"]
        self.check_both([0], SAMPLE, f, build_of(*lines))
        for at, where in enumerate((0, 1, 2, 4, 5, 6, 8)):
            self.check_both([1, 4, where], SAMPLE, f, build_of(*lines[:at] + lines[at + 1:]))

    def test_the_least_is_told(self):
        f = field_of("111", "111", "111")
        self.check_both([1, 4, 2], SAMPLE, f, build_of("p01 1 0 0", "p01 1 1 1"))
        self.check_both([1, 4, 3], SAMPLE, f, build_of("p01 1 0 0", "p00 1 2 0", "p01 1 1 1"))
        self.check_both([1, 4, 1], SAMPLE, f, build_of("p00 1 0 0", "p00 1 2 0"))
        self.check_both([1, 4, 8], SAMPLE, f, build_of(
            "p01 1 0 0", "p00 1 2 0", "p01 1 0 1", "p00 1 2 1", "p01 1 0 2"))

    def test_only_if_no_line_is_wrong(self):
        f = field_of("111", "111", "111")
        self.check_both([1, 3, 0], SAMPLE, f, build_of("p00 1 3 0"))
        self.check_both([1, 2, 1], SAMPLE, f, build_of("p00 1 1 0", "p00 1 0 0"))
        self.check_both([1, 1, 1], SAMPLE, f, build_of("p00 1 1 0", "p03 1 2 0"))


class Several(CoversCase):
    def test_the_first_line_before_the_least_number(self):
        f = field_of("111", "111")
        self.check_both([1, 3, 0], SAMPLE, f, build_of("p00 2 0 0", "p03 1 1 0"))
        self.check_both([1, 3, 0], SAMPLE, f, build_of("p00 2 1 0", "p00 1 0 0"))
        self.check_both([1, 2, 1], SAMPLE, f, build_of("p00 1 1 0", "p00 1 0 0", "p03 1 2 0"))
        self.check_both([1, 1, 0], SAMPLE, f, build_of("p03 1 1 0", "p00 1 0 0", "p00 2 2 0"))

    def test_two_hundred_and_fifty_six_lines(self):
        f = field_of("1")
        first = "p00 1 0 0"
        self.check_both([1, 2, 1], SAMPLE, f, build_of(*[first] * 256))
        self.check_both([1, 1, 0], SAMPLE, f, build_of(*["p05 255 63 63 95 3"] * 256))
        self.check_both([1, 3, 0], SAMPLE, f, build_of(*[f"p00 1 {k % 64} {k // 64}" for k in range(1, 256)]))
        self.check_both([1, 3, 1], SAMPLE, f, build_of(*[f"p00 1 {k % 64} {k // 64}" for k in range(256)]))
        self.check_both([-5], SAMPLE, f, build_of(*[first] * 257))

    def test_covers_with_a_change(self):
        source = random.Random(52)
        seen = {}
        for c, f in small_cases(53, 700):
            covers_here = all_covers(c, f, ways_from_the_back)
            if covers_here:
                rows = cover_text(c, "n", source.choice(covers_here)).split("\n")[1:-1]
                for turn in range(4):
                    b = "build n\n" + "".join(row + "\n" for row in changed_rows(source, c, list(rows)))
                    expected = expected_covers(c, f, b)
                    seen[tuple(expected[:2])] = seen.get(tuple(expected[:2]), 0) + 1
                    self.check(expected, c, f, b)
        for kind in ((0,), (1, 1), (1, 2), (1, 3), (1, 4), (-5,)):
            self.assertGreater(seen[kind], 15)


def changed_rows(source, c, rows):
    """The rows of a build with something else about them."""
    kind = source.randrange(5)
    at = source.randrange(len(rows) + 1)
    names = [row.split()[1] for row in c.split("\n") if row.startswith("part")]
    if kind == 0 or at == len(rows):
        colour, x, y = source.randrange(3), source.randrange(3), source.randrange(4)
        rows.insert(at, f"put {source.choice(names)} {colour} {x} {y} 0 0")
    elif kind == 1:
        rows.pop(at)
    elif kind == 2:
        rows.insert(source.randrange(len(rows)), rows.pop(at))
    else:
        words = rows[at].split()
        which = source.randrange(1, 7)
        words[which] = source.choice(names) if which == 1 else str(source.choice((0, 1, 1, 2, 3, 4, 9)))
        rows[at] = " ".join(words)
    return rows


class NoBuild(CoversCase):
    f = field_of("11", "1.")
    b = build_of("p01 1 0 0", "p00 1 0 1")

    def refused(self, text):
        self.check_both([-5], SAMPLE, self.f, text)

    def test_the_sample(self):
        self.check_both([0], SAMPLE, self.f, self.b)

    def test_the_empty_text(self):
        self.refused("")

    def test_cut_off_anywhere(self):
        ends = {len("build x\n"): [1, 4, 0], len(build_of("p01 1 0 0")): [1, 4, 2]}
        for length in range(len(self.b)):
            self.check_both(ends.get(length, [-5]), SAMPLE, self.f, self.b[:length])

    def test_each_byte_in_the_place_of_each(self):
        for at in range(len(self.b)):
            for byte in range(256):
                changed = self.b[:at] + bytes([byte]).decode("latin-1") + self.b[at + 1:]
                self.check(expected_covers(SAMPLE, self.f, changed), SAMPLE, self.f, changed)

    def test_a_byte_too_many_or_too_few_anywhere(self):
        for at in range(len(self.b) + 1):
            without = self.b[:at] + self.b[at + 1:]
            self.check(expected_covers(SAMPLE, self.f, without), SAMPLE, self.f, without)
            for sign in "buildptz 0123459\n\r\t-+.\0\xff":
                longer = self.b[:at] + sign + self.b[at:]
                self.check(expected_covers(SAMPLE, self.f, longer), SAMPLE, self.f, longer)

    def test_the_first_word(self):
        for word in ("", "Build", "buil", "builds", " build", "\nbuild", "put", "field", "part"):
            self.refused(f"{word} x\nput p01 1 0 0 0 0\n")

    def test_names_of_builds(self):
        for name in NO_NAMES:
            self.check_both([-5], ONE, field_of("."), f"build {name}\n")
        for byte in range(256):
            sign = bytes([byte]).decode("latin-1")
            for name, is_one in ((sign, "a" <= sign <= "z"), ("a" + sign, "a" <= sign <= "z" or "0" <= sign <= "9")):
                self.check([0] if is_one else [-5], ONE, field_of("."), f"build {name}\n")

    def test_the_word_of_a_line(self):
        for word in ("", "Put", "pu", "puts", " put", "\nput", "build", "pit"):
            self.refused(f"build x\n{word} p01 1 0 0 0 0\n")

    def test_names_that_are_none_of_the_catalogues(self):
        for name in ("", "p", "p0", "p1", "p000", "p06", "P00", "q", "a", "p00p00p0", "p00000000", "p001", "p0 0", "0"):
            self.refused(f"build x\nput {name} 1 0 0 0 0\n")

    def test_a_name_that_another_begins_with(self):
        c = full_part("ab", 1, 1) + full_part("abc", 2, 1) + full_part("abcdefgh", 3, 1)
        self.check_both([0], c, field_of("111111"), build_of("ab 1 0 0", "abc 1 1 0", "abcdefgh 1 3 0"))
        for name in ("a", "abcd", "abcdefg", "abcdefghi", "abcdefghij", "b", "bc"):
            self.check_both([-5], c, field_of("1"), build_of(f"{name} 1 0 0"))

    def test_the_ranges_of_the_numbers(self):
        for which, most in enumerate((255, 63, 63, 95, 3)):
            for value in list(range(most + 30)) + [most * 10, most * 10 + 1, 999, 1000, 2559, 99999]:
                words = ["1", "0", "0", "0", "0"]
                words[which] = str(value)
                text = "build x\nput p00 " + " ".join(words) + "\n"
                expected = expected_covers(SAMPLE, self.f, text)
                self.assertEqual(value > most, expected == [-5])
                self.check(expected, SAMPLE, self.f, text)

    def test_how_the_numbers_are_written(self):
        for which in range(5):
            for written in ("00", "01", "000", "007", "-1", "-0", "+1", "1.", "0x1", "x", "", "1 ", " 1", "1e0", "0.0"):
                words = ["1", "0", "0", "0", "0"]
                words[which] = written
                self.refused("build x\nput p00 " + " ".join(words) + "\n")

    def test_too_few_or_too_many_numbers(self):
        for words in ("", " 1", " 1 0", " 1 0 0", " 1 0 0 0", " 1 0 0 0 0 0", " 1 0 0 0 0 "):
            self.refused(f"build x\nput p00{words}\n")

    def test_the_ends_of_the_rows(self):
        for end in ("", " ", "\r\n", "\n\n", "\0"):
            self.refused(f"build x{end}put p00 1 0 0 0 0\n")
            self.refused(f"build x\nput p00 1 0 0 0 0{end}put p00 1 1 0 0 0\n")
            self.refused(f"build x\nput p00 1 0 0 0 0{end}")

    def test_257_lines(self):
        for line in ("p00 1 0 0", "p05 255 63 63 95 3", "p00 0 0 0"):
            for count in (255, 256, 257, 258, 300):
                text = build_of(*[line] * count)
                expected = expected_covers(SAMPLE, self.f, text)
                self.assertEqual(count > 256, expected == [-5])
                self.check(expected, SAMPLE, self.f, text)
        self.refused(build_of(*["p00 1 0 0"] * 256) + "put")
        self.refused(build_of(*["p00 1 0 0"] * 256) + "\n")

    def test_looked_at_before_what_is_wrong_with_the_lines(self):
        self.refused(build_of("p03 200 9 9 9 3", "zz 1 0 0"))
        self.refused(build_of("p03 200 9 9 9 3") + "put")


class Lengths(CoversCase):
    def test_lengths_of_builds(self):
        for text in ("", "build a\n", build_of("p00 1 0 0"), "x", "build a", build_of(*["p00 1 0 0"] * 256)):
            for length, refusal in ((16383, -5), (16384, -5), (16385, -2), (16386, -2), (16500, -2)):
                self.check([refusal], ONE, field_of("1"), text.ljust(length, "\n"))
                self.check([refusal], ONE, field_of("1"), text.ljust(length, "0"))

    def test_just_as_long_and_one_longer(self):
        lines = build_of(*["p00 1 0 0"] * 909)
        self.assertLess(16360, len(lines))
        self.check([-5], ONE, field_of("1"), lines[:16384])
        self.check([-2], ONE, field_of("1"), lines.ljust(16385, "0"))


class Refused(CoversCase):
    def test_each_refusal_and_their_order(self):
        for wrong in itertools.product(FAULTY_CATALOGUES, FAULTY_FIELDS, FAULTY_BUILDS + (("build a\n", ()),)):
            (c, of_catalogue), (f, of_field), (b, of_build) = wrong
            refusals = [refusal for refusal in of_catalogue + of_field + of_build if refusal != -3]
            if refusals:
                self.check(foremost(refusals), c, f, b)

    def test_a_catalogue_that_is_too_long(self):
        # More than the interface lets be handed in; the calls' words name it all the same.
        self.check([-2], TOO_LONG_CATALOGUE, field_of("1"), "build a\n")
        self.check([-2], TOO_LONG_CATALOGUE, "", "")
        self.check([-6], TOO_LONG_CATALOGUE[:1048576], field_of("1"), "build a\n")


class EachCallByItself(CoversCase):
    def test_other_calls_between(self):
        one = build_of("p00 1 0 0")
        given = [(ONE, field_of("1"), one), (ONE, field_of("1"), "build a\n"), (ONE, field_of("."), "build a\n"),
                 (ONE, field_of("."), one), (ONE, field_of("1"), ""), (ONE, "", one), ("", field_of("1"), one),
                 (full_part("a", 1, 1), field_of("1"), one)]
        bare = [[to_bytes(value) for value in some] for some in given]
        forth = [covers(*some) for some in bare]
        back = [covers(*some) for some in reversed(bare)]
        self.assertEqual([[0], [1, 4, 0], [0], [1, 3, 0], [-5], [-10], [-6], [-5]], forth)
        self.assertEqual(forth, back[::-1])


class InSeconds(CoversCase):
    def test_the_greatest_field_and_256_lines(self):
        f = field_of(*["111111"] * 12)
        ones = [f"p00 1 {x} {y}" for y in range(12) for x in range(6)]
        outside = [f"p00 1 {k % 60} {12 + k // 60}" for k in range(184)]
        for lines in (["p23 1 0 0", "p23 1 0 4", "p23 1 0 8"], ones, ones + outside):
            start = time.process_time()
            covers(to_bytes(ALL), to_bytes(f), to_bytes(build_of(*lines)))
            self.assertLess(time.process_time() - start, 10)

    def test_at_random_with_great_fields(self):
        source = random.Random(54)
        for turn in range(60):
            c = random_catalogue(source, sorted({(1, 1), *source.sample(ALL_SIZES, 4)}))
            f = random_field(source, source.randint(4, 6), source.randint(6, 12), source.choice(("1", "111.", "1112")))
            rows = greedy_rows(source, c, f)
            b = "build n\n" + "".join(row + "\n" for row in rows)
            self.assertEqual([0], expected_covers(c, f, b))
            self.check([0], c, f, b)
            b = "build n\n" + "".join(row + "\n" for row in changed_rows(source, c, rows))
            self.check(expected_covers(c, f, b), c, f, b)


def greedy_rows(source, c, f):
    """A cover's rows, made by laying some plate that fits again and again."""
    colours = colours_of(f)
    sizes = sizes_of_plates(c)
    cover = []
    while colours:
        x, y = min(colours, key=lambda place: (place[1], place[0]))
        fitting = [part for part in sizes
                   if all(colours.get(place) == colours[x, y] for place in laid(sizes[part], x, y))]
        part = source.choice(fitting)
        cover.append((y, x, part, colours[x, y]))
        colours = {place: value for place, value in colours.items() if place not in laid(sizes[part], x, y)}
    return cover_text(c, "n", cover).split("\n")[1:-1]
