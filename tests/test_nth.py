"""nth(i, c, f, s): the text of cover i, or the refusal."""

import itertools
import random
import time

from platecover.covers import count, nth
from tests.helper import (
    ALL_SIZES, FAULTY_CATALOGUES, FAULTY_FIELDS, NAMES, NO_NAMES, NO_PLATE, TOO_LONG_CATALOGUE, CallCase, all_covers,
    catalogue_of, colours_of, cover_text, field_of, field_text, foremost, full_part, laid, part_text, random_catalogue,
    random_field, rest_of, row_by_row, sizes_of_plates, small_cases, to_bytes, ways_from_the_back, with_length,
)

ONE = catalogue_of((1, 1))
ALL = catalogue_of(*ALL_SIZES)
GREATEST = 10 ** 60 - 1


class NthCase(CallCase):
    call = nth

    def check_lines(self, lines, i, c, f):
        """The lines as they must be, told without what they all share."""
        text = "build x\n" + "".join(f"put {line} 0 0\n" for line in lines)
        self.check(with_length(text), i, c, f, "x")

    def check_none_from(self, number, c, f):
        for i in (number, number + 1, number + 2, 2 * number + 5, 10 ** 30, GREATEST):
            self.check([-3], i, c, f, "x")


class ByHand(NthCase):
    def test_one_place(self):
        self.check([26] + to_bytes("build a\nput p00 7 0 0 0 0\n"), 0, ONE, field_of("7"), "a")
        self.check([29] + to_bytes("build ab0\nput p00 9 2 11 0 0\n"), 0, ONE, field_of(*["..."] * 11 + ["..9"]), "ab0")
        self.check_none_from(1, ONE, field_of("7"))

    def test_a_row_of_three(self):
        f = field_of("111")
        c = catalogue_of((1, 1), (2, 1), (3, 1))
        self.check_lines(["p00 1 0 0", "p00 1 1 0", "p00 1 2 0"], 0, c, f)
        self.check_lines(["p00 1 0 0", "p01 1 1 0"], 1, c, f)
        self.check_lines(["p01 1 0 0", "p00 1 2 0"], 2, c, f)
        self.check_lines(["p02 1 0 0"], 3, c, f)
        self.check_none_from(4, c, f)

    def test_a_row_of_three_the_greatest_part_first(self):
        f = field_of("111")
        c = catalogue_of((3, 1), (2, 1), (1, 1))
        self.check_lines(["p00 1 0 0"], 0, c, f)
        self.check_lines(["p01 1 0 0", "p02 1 2 0"], 1, c, f)
        self.check_lines(["p02 1 0 0", "p01 1 1 0"], 2, c, f)
        self.check_lines(["p02 1 0 0", "p02 1 1 0", "p02 1 2 0"], 3, c, f)
        self.check_none_from(4, c, f)

    def test_a_square(self):
        f = field_of("33", "33")
        c = catalogue_of((1, 2), (1, 1), (2, 1), (2, 2))
        self.check_lines(["p00 3 0 0", "p00 3 1 0"], 0, c, f)
        self.check_lines(["p00 3 0 0", "p01 3 1 0", "p01 3 1 1"], 1, c, f)
        self.check_lines(["p01 3 0 0", "p00 3 1 0", "p01 3 0 1"], 2, c, f)
        self.check_lines(["p01 3 0 0", "p01 3 1 0", "p01 3 0 1", "p01 3 1 1"], 3, c, f)
        self.check_lines(["p01 3 0 0", "p01 3 1 0", "p02 3 0 1"], 4, c, f)
        self.check_lines(["p02 3 0 0", "p01 3 0 1", "p01 3 1 1"], 5, c, f)
        self.check_lines(["p02 3 0 0", "p02 3 0 1"], 6, c, f)
        self.check_lines(["p03 3 0 0"], 7, c, f)
        self.check_none_from(8, c, f)

    def test_two_colours_and_a_gap(self):
        f = field_of("1.2", "112")
        c = catalogue_of((1, 2), (2, 1), (1, 1))
        self.check_lines(["p00 1 0 0", "p00 2 2 0", "p02 1 1 1"], 0, c, f)
        self.check_lines(["p00 1 0 0", "p02 2 2 0", "p02 1 1 1", "p02 2 2 1"], 1, c, f)
        self.check_lines(["p02 1 0 0", "p00 2 2 0", "p01 1 0 1"], 2, c, f)
        self.check_lines(["p02 1 0 0", "p00 2 2 0", "p02 1 0 1", "p02 1 1 1"], 3, c, f)
        self.check_lines(["p02 1 0 0", "p02 2 2 0", "p01 1 0 1", "p02 2 2 1"], 4, c, f)
        self.check_lines(["p02 1 0 0", "p02 2 2 0", "p02 1 0 1", "p02 1 1 1", "p02 2 2 1"], 5, c, f)
        self.check_none_from(6, c, f)

    def test_ways_that_lead_nowhere_have_no_number(self):
        # Behind one place or three of four there is no cover with plates of 2 and 3 alone.
        self.check_lines(["p00 1 0 0", "p00 1 2 0"], 0, catalogue_of((2, 1), (3, 1)), field_of("1111"))
        self.check_lines(["p01 1 0 0", "p01 1 2 0"], 0, catalogue_of((3, 1), (2, 1)), field_of("1111"))
        self.check_none_from(1, catalogue_of((3, 1), (2, 1)), field_of("1111"))

    def test_no_coloured_place(self):
        for c in (ONE, ALL, NO_PLATE):
            for width, depth in ((1, 1), (6, 1), (1, 12), (3, 4), (6, 12)):
                f = field_text(width, depth, ["." * width] * depth)
                self.check([8] + to_bytes("build a\n"), 0, c, f, "a")
                self.check([23] + to_bytes("build abcdefghijklmnop\n"), 0, c, f, "abcdefghijklmnop")
                self.check_none_from(1, c, f)

    def test_no_cover(self):
        for c, f in ((NO_PLATE, field_of("1")), (catalogue_of((2, 1)), field_of("111")),
                     (catalogue_of((2, 1)), field_of("12")), (catalogue_of((5, 4)), field_of(*["111111"] * 12))):
            self.check_none_from(0, c, f)

    def test_of_a_size_the_part_with_the_least_number(self):
        c = part_text("a", [["s"]]) + part_text("b", [["b"]]) + part_text("c", [["b"]])
        self.check_lines(["b 1 0 0", "b 1 1 0"], 0, c, field_of("11"))
        self.check_none_from(1, c, field_of("11"))

    def test_the_greatest_field_with_one_cover(self):
        squares = [f"p00 {(x + y) % 2} {x} {y}" for y in range(12) for x in range(6)]
        f = field_of(*["010101", "101010"] * 6)
        self.check_lines(squares, 0, ALL, f)
        self.check_none_from(1, ALL, f)


class AllCoversGoneThrough(NthCase):
    def test_small_fields(self):
        told = 0
        for c, f in small_cases(41, 500):
            covers = all_covers(c, f, ways_from_the_back)
            if len(covers) <= 60:
                for i, cover in enumerate(covers):
                    self.check(with_length(cover_text(c, "n", cover)), i, c, f, "n")
                    told += 1
                self.check([-3], len(covers), c, f, "n")
                self.check([-3], len(covers) + 1, c, f, "n")
                self.check([-3], GREATEST, c, f, "n")
        self.assertGreater(told, 1200)

    def test_hundreds_of_covers(self):
        for f in (field_of("111", "111", "111"), field_of(*["11"] * 4), field_of("0000", "0..0", "0000")):
            c = ALL
            covers = all_covers(c, f)
            self.assertGreater(len(covers), 100)
            texts = [nth(i, to_bytes(c), to_bytes(f), to_bytes("n")) for i in range(len(covers))]
            self.assertEqual([with_length(cover_text(c, "n", cover)) for cover in covers], texts)
            self.check_none_from(len(covers), c, f)

    def test_each_is_different_and_in_order(self):
        c = catalogue_of((1, 2), (2, 2), (1, 1), (2, 1))
        f = field_of("1112", "1.12", "1122")
        given = [to_bytes(c), to_bytes(f), to_bytes("n")]
        number = count(*given[:2])[0]
        self.assertGreater(number, 50)
        rows = []
        for i in range(number):
            text = bytes(nth(i, *given)[1:]).decode()
            places = [(int(row.split()[4]), int(row.split()[3])) for row in text.split("\n")[1:-1]]
            self.assertEqual(sorted(set(places)), places)
            rows.append([int(row.split()[1][1:]) for row in text.split("\n")[1:-1]])
        for before, behind in zip(rows, rows[1:]):
            self.assertLess(before, behind)
        self.check_none_from(number, c, f)


class OneBandBehindAnother(NthCase):
    """A field of bands, each over the whole width and in its own colour, has all the ways of each band with all
    of the others; and the first band's lines come first, so the numbers go as figures do."""

    def look_at(self, band, bands, numbers):
        width, depth = band
        ways = all_covers(ALL, field_text(width, depth, ["1" * width] * depth), ways_from_the_back)
        f = field_text(width, depth * bands, [str(k) * width for k in range(bands) for y in range(depth)])
        whole = len(ways) ** bands
        for i in numbers(whole):
            cover = []
            for k in range(bands):
                way = ways[i // len(ways) ** (bands - 1 - k) % len(ways)]
                cover.extend((y + k * depth, x, part, k) for y, x, part, colour in way)
            self.check(with_length(cover_text(ALL, "n", cover)), i, ALL, f, "n")
        self.check_none_from(whole, ALL, f)
        return whole

    def test_small_fields_whole(self):
        self.assertEqual(64, self.look_at((3, 1), 3, range))
        self.assertEqual(64, self.look_at((2, 2), 2, range))

    def test_great_numbers(self):
        source = random.Random(42)

        def some(whole):
            return [0, 1, whole // 2, whole - 2, whole - 1] + [source.randrange(whole) for turn in range(25)]

        self.assertEqual(32 ** 10, self.look_at((6, 1), 10, some))
        self.assertLess(10 ** 20, self.look_at((6, 2), 6, some))
        self.assertEqual(322 ** 4, self.look_at((3, 3), 4, some))


class GreatFields(NthCase):
    """There are too many covers to go through, but what is left of a field is a field."""

    def number_of(self, c, f, text):
        """The number of the cover, by counting those before it; that it's a cover is looked at too."""
        colours = colours_of(f)
        sizes = sizes_of_plates(c)
        number = 0
        for row in text.split("\n")[1:-1]:
            word, name, *numbers = row.split()
            colour, x, y, z, r = map(int, numbers)
            self.assertEqual(("put", 0, 0), (word, z, r))
            self.assertEqual((x, y), min(colours, key=lambda place: (place[1], place[0])))
            self.assertIn(int(name[1:]), sizes)
            for part in sizes:
                under = laid(sizes[part], x, y)
                fits = all(colours.get(place) == colour for place in under)
                left = {place: value for place, value in colours.items() if place not in under}
                if part < int(name[1:]) and fits:
                    number += row_by_row(c, rest_of(f, left))[1]
                if part == int(name[1:]):
                    self.assertTrue(fits)
                    after = left
            colours = after
        self.assertEqual({}, colours)
        return number

    def test_great_numbers(self):
        source = random.Random(43)
        greatest = 0
        for turn in range(25):
            among = [size for size in ALL_SIZES if max(size) <= 3] if turn % 2 else ALL_SIZES
            c = random_catalogue(source, sorted({(1, 1), *source.sample(among, source.randint(2, 5))}))
            signs = source.choice(("1", "111111111.", "0000000000000001", "12", "5555555555556."))
            f = random_field(source, source.randint(3, 5), source.randint(4, 8), signs)
            whole = row_by_row(c, f)[1]
            greatest = max(greatest, whole)
            i = source.choice((0, whole - 1, source.randrange(whole), source.randrange(whole), source.randrange(whole)))
            got = nth(i, to_bytes(c), to_bytes(f), to_bytes("g"))
            self.assertEqual(i, self.number_of(c, f, bytes(got[1:]).decode()))
            self.assertEqual([-3], nth(whole, to_bytes(c), to_bytes(f), to_bytes("g")))
        self.assertGreater(greatest, 10 ** 6)

    def test_the_first_and_the_last_of_the_greatest_number(self):
        f = field_of(*["111111"] * 12)
        whole = 1036674585391059026595964
        ones = [f"p00 1 {x} {y}" for y in range(12) for x in range(6)]
        self.check_lines(ones, 0, ALL, f)
        self.check_lines(ones[:-2] + ["p01 1 4 11"], 1, ALL, f)
        self.check_lines(["p23 1 0 0", "p23 1 0 4", "p23 1 0 8"], whole - 1, ALL, f)
        self.check([-3], whole, ALL, f, "x")
        self.check([-3], GREATEST, ALL, f, "x")


class Names(NthCase):
    def test_names_as_they_are_handed_in(self):
        for name in NAMES:
            self.check(with_length(f"build {name}\nput p00 1 0 0 0 0\n"), 0, ONE, field_of("1"), name)

    def test_each_byte(self):
        for byte in range(256):
            sign = bytes([byte]).decode("latin-1")
            letter = "a" <= sign <= "z"
            for name, is_one in ((sign, letter), ("a" + sign, letter or "0" <= sign <= "9")):
                expected = with_length(f"build {name}\n") if is_one else [-1]
                self.check(expected, 0, ONE, field_of("."), name)

    def test_each_length(self):
        for length in range(41):
            name = "abcdefgh01234567abcdefgh01234567abcdefgh"[:length]
            expected = with_length(f"build {name}\n") if 1 <= length <= 16 else [-1]
            self.check(expected, 0, ONE, field_of("."), name)

    def test_names_that_are_none(self):
        for name in NO_NAMES:
            self.check([-1], 0, ONE, field_of("1"), name)
            self.check([-1], 1, ONE, field_of("1"), name)


class Refused(NthCase):
    def test_each_refusal_and_their_order(self):
        names = (("a", ()), ("", (-1,)), ("A", (-1,)), ("a" * 17, (-1,)))
        numbers = ((0, ()), (1, (-3,)), (GREATEST, (-3,)))
        for wrong in itertools.product(FAULTY_CATALOGUES, FAULTY_FIELDS, names, numbers):
            (c, of_catalogue), (f, of_field), (s, of_name), (i, of_number) = wrong
            if of_catalogue + of_field + of_name + of_number:
                self.check(foremost(of_catalogue, of_field, of_name, of_number), i, c, f, s)

    def test_a_catalogue_that_is_too_long(self):
        # More than the interface lets be handed in; the calls' words name it all the same.
        self.check([-2], 0, TOO_LONG_CATALOGUE, field_of("1"), "a")
        self.check([-1], 0, TOO_LONG_CATALOGUE, field_of("1"), "1")
        self.check([-6], 0, TOO_LONG_CATALOGUE[:1048576], field_of("1"), "a")

    def test_lengths_of_fields(self):
        for length, refusal in ((16383, -10), (16384, -10), (16385, -2), (16500, -2)):
            self.check([refusal], 0, ONE, field_of("1").ljust(length, "\n"), "a")
            self.check([refusal], 5, ONE, "x" * length, "a")


class EachCallByItself(NthCase):
    def test_other_calls_between(self):
        c = to_bytes(catalogue_of((1, 1), (2, 1)))
        f = to_bytes(field_of("11"))
        given = [(0, c, f, to_bytes("a")), (1, c, f, to_bytes("a")), (2, c, f, to_bytes("a")), (0, c, f, to_bytes("b")),
                 (0, c, f, []), (0, to_bytes(full_part("z", 1, 1)), f, to_bytes("a"))]
        forth = [nth(*one) for one in given]
        back = [nth(*one) for one in reversed(given)]
        two = "put p00 1 0 0 0 0\nput p00 1 1 0 0 0\n"
        expected = [with_length("build a\n" + two), with_length("build a\nput p01 1 0 0 0 0\n"), [-3],
                    with_length("build b\n" + two), [-1], with_length("build a\n" + two.replace("p00", "z"))]
        self.assertEqual(expected, forth)
        self.assertEqual(forth, back[::-1])


class InSeconds(NthCase):
    def test_the_greatest_field_with_plates_of_all_sizes(self):
        for f in (field_of(*["111111"] * 12), field_of(*["111111"] * 7 + ["11.111"] + ["111111"] * 4)):
            for i in (0, 10 ** 22, GREATEST):
                start = time.process_time()
                nth(i, to_bytes(ALL), to_bytes(f), to_bytes("a"))
                self.assertLess(time.process_time() - start, 10)
