"""count(c, f): how many covers there are, or the refusal."""

import random
import time

from platecover.covers import count
from tests.helper import (
    ALL_SIZES, FAULTY_CATALOGUES, FAULTY_FIELDS, NO_PLATE, TOO_LONG_CATALOGUE, CallCase, all_covers, catalogue_of,
    field_of, field_text, foremost, full_part, part_text, random_catalogue, random_field, row_by_row, small_cases,
    to_bytes, ways_from_the_back,
)

ONE = catalogue_of((1, 1))
ALL = catalogue_of(*ALL_SIZES)
DOMINOES = catalogue_of((1, 2), (2, 1))


def row_counts(lengths, most):
    """In how many ways rows of 0, 1, 2 .. places are made up of pieces of these lengths."""
    counts = [1]
    for places in range(1, most + 1):
        counts.append(sum(counts[places - length] for length in lengths if length <= places))
    return counts


class CountCase(CallCase):
    call = count


def whole(width, depth, sign="1"):
    return field_text(width, depth, [sign * width] * depth)


class Answered(CountCase):
    def test_no_coloured_place(self):
        for c in (ONE, ALL, NO_PLATE, catalogue_of((6, 4))):
            for width in range(1, 7):
                for depth in range(1, 13):
                    self.check([1], c, whole(width, depth, "."))

    def test_no_cover(self):
        self.check([0], NO_PLATE, field_of("1"))
        self.check([0], NO_PLATE, whole(6, 12))
        self.check([0], full_part("a", 7, 1), whole(6, 12))
        self.check([0], catalogue_of((2, 1)), field_of("1"))
        self.check([0], catalogue_of((2, 1)), field_of("12"))
        self.check([0], catalogue_of((2, 1)), field_of("11", "1."))
        self.check([0], DOMINOES, whole(3, 3))
        self.check([0], DOMINOES, field_of(".11111", *["111111"] * 10, "11111."))
        self.check([0], catalogue_of((5, 4)), whole(6, 12))
        self.check([0], catalogue_of((4, 4), (5, 3)), whole(6, 12))
        self.check([0], catalogue_of(*ALL_SIZES[1:]), field_of(*["......"] * 11 + [".....0"]))

    def test_one_place(self):
        for colour in "0123456789":
            self.check([1], ONE, field_of(colour))
            self.check([1], ALL, field_of(colour))
            self.check([1], ALL, field_of("...", "...", ".." + colour))

    def test_one_row(self):
        for lengths in ((1,), (1, 2), (2, 3), (1, 3), (2,), (1, 2, 3, 4, 5, 6), (4, 6), (5,)):
            counts = row_counts(lengths, 6)
            c = catalogue_of(*[(length, 1) for length in lengths])
            for width in range(1, 7):
                self.check([counts[width]], c, whole(width, 1))
        self.check([32], ALL, field_of("000000"))
        self.check([8], ALL, field_of("112233"))
        self.check([16], ALL, field_of("111222"))
        self.check([4], ALL, field_of("11..22"))
        self.check([1], ALL, field_of("121212"))

    def test_one_column(self):
        for lengths in ((1,), (1, 2), (2, 3), (1, 3), (2,), (1, 2, 3, 4), (3, 4), (1, 4)):
            counts = row_counts(lengths, 12)
            c = catalogue_of(*[(1, length) for length in lengths])
            for depth in range(1, 13):
                self.check([counts[depth]], c, whole(1, depth))
        self.check([233], catalogue_of((1, 1), (1, 2)), whole(1, 12))
        self.check([1490], ALL, whole(1, 12))

    def test_dominoes(self):
        known = {
            2: (1, 2, 3, 5, 8, 13, 21, 34, 55, 89, 144, 233),
            3: (0, 3, 0, 11, 0, 41, 0, 153, 0, 571, 0, 2131),
            4: (1, 5, 11, 36, 95, 281, 781, 2245, 6336, 18061, 51205, 145601),
            5: (0, 8, 0, 95, 0, 1183, 0, 14824, 0, 185921, 0, 2332097),
            6: (1, 13, 41, 281, 1183, 6728, 31529, 167089, 817991, 4213133, 21001799, 106912793),
        }
        for width, numbers in known.items():
            for depth, number in enumerate(numbers, start=1):
                self.check([number], DOMINOES, whole(width, depth))

    def test_rectangles_of_all_sizes(self):
        for width, depth, number in ((2, 2, 8), (3, 2, 34), (3, 3, 322), (4, 3, 3164), (4, 4, 70878), (5, 4, 1613060)):
            self.check([number], ALL, whole(width, depth))
        self.check([34], ALL, whole(2, 3))
        self.check([3164], ALL, whole(3, 4))

    def test_squares_of_all_sizes(self):
        # The squares of 5 and 6 are no plates: of 472 and 10668 ways 1 and 5 are with such.
        c = catalogue_of((1, 1), (2, 2), (3, 3), (4, 4)) + full_part("q5", 5, 5) + full_part("q6", 6, 6)
        for size, number in ((1, 1), (2, 2), (3, 6), (4, 40), (5, 471), (6, 10663)):
            self.check([number], c, whole(size, size))

    def test_the_greatest_field_in_one_colour(self):
        f = whole(6, 12)
        self.check([1036674585391059026595964], ALL, f)
        self.check([1], ONE, f)
        self.check([1], catalogue_of((6, 4)), f)
        self.check([13 ** 12], catalogue_of((1, 1), (2, 1)), f)
        self.check([233 ** 6], catalogue_of((1, 2), (1, 1)), f)
        self.check([32 ** 12], catalogue_of(*[(width, 1) for width in range(1, 7)]), f)
        self.check([1490 ** 6], catalogue_of(*[(1, depth) for depth in range(4, 0, -1)]), f)

    def test_the_greatest_field_in_many_colours(self):
        self.check([32 ** 12], ALL, field_of(*[figure * 6 for figure in "012345678901"]))
        self.check([1490 ** 6], ALL, field_of(*["012345"] * 12))
        self.check([1], ALL, field_of(*["010101", "101010"] * 6))
        self.check([8 ** 18], ALL, field_of(*["112233", "112233", "445566", "445566"] * 3))
        self.check([322 ** 8], ALL, field_of(*(["111222"] * 3 + ["333444"] * 3) * 2))
        self.check([70878 ** 3], ALL, field_of(*["1111.."] * 4 + ["..2222"] * 4 + [".3333."] * 4))

    def test_the_greatest_field_with_places_that_have_no_colour(self):
        self.check([32 ** 6], ALL, field_of(*["555555", "......"] * 6))
        self.check([1490 ** 3], ALL, field_of(*[".1.1.1"] * 12))
        self.check([1], ALL, field_of(*["1.1.1.", ".1.1.1"] * 6))
        self.check([8 ** 8], ALL, field_of(*["11..11", "11..11", "......"] * 4))

    def test_only_plates_count(self):
        f = field_of("11", "11")
        self.check([8], full_part("a", 2, 2) + full_part("b", 1, 1) + full_part("c", 2, 1) + full_part("d", 1, 2), f)
        self.check([2], full_part("a", 2, 2) + full_part("b", 1, 1) + full_part("c", 2, 1, 1, "s"), f)
        self.check([2], full_part("a", 2, 2) + full_part("b", 1, 1) + full_part("c", 2, 2) + full_part("d", 1, 1), f)

    def test_a_field_seen_from_the_other_side(self):
        source = random.Random(31)
        for turn in range(40):
            rows = ["".join(source.choices("11112", k=6)) for y in range(source.randint(3, 12))]
            expected = self.answer(to_bytes(ALL), to_bytes(field_of(*rows)))
            self.assertGreater(expected[0], 0)
            self.check(expected, ALL, field_of(*[row[::-1] for row in rows]))
            self.check(expected, ALL, field_of(*rows[::-1]))

    def test_the_order_of_the_parts_makes_no_difference(self):
        source = random.Random(32)
        f = field_of("111222", "111122", ".11122", "111.22", "333322")
        expected = row_by_row(ALL, f)[1]
        self.assertGreater(expected, 10 ** 6)
        for turn in range(10):
            self.check([expected], catalogue_of(*source.sample(ALL_SIZES, 24)), f)


class AllCoversGoneThrough(CountCase):
    def test_small_fields(self):
        greatest = 0
        none = 0
        for c, f in small_cases(33, 1500):
            expected = len(all_covers(c, f, ways_from_the_back))
            greatest = max(greatest, expected)
            none += expected == 0
            self.check([expected], c, f)
        self.assertGreater(greatest, 500)
        self.assertTrue(100 < none < 1000)


class RowByRow(CountCase):
    def test_great_fields(self):
        source = random.Random(34)
        greatest = 0
        for turn in range(60):
            sizes = source.sample(ALL_SIZES, source.randint(1, 8))
            c = random_catalogue(source, sorted({(1, 1), *sizes} if turn % 3 else sizes))
            signs = source.choice(("1", "11111111.", "0000000000000001", "12", "0123456789", "5555555555556."))
            f = random_field(source, source.randint(4, 6), source.randint(5, 12), signs)
            expected = row_by_row(c, f)[1]
            greatest = max(greatest, expected)
            self.check([expected], c, f)
        self.assertGreater(greatest, 10 ** 9)

    def test_the_greatest_number(self):
        f = whole(6, 12)
        self.check([row_by_row(ALL, f)[1]], ALL, f)


class Refused(CountCase):
    def test_each_refusal_and_their_order(self):
        for c, of_catalogue in FAULTY_CATALOGUES:
            for f, of_field in FAULTY_FIELDS:
                refusals = [refusal for refusal in of_catalogue + of_field if refusal != -3]
                if refusals:
                    self.check(foremost(refusals), c, f)
        self.check([1], FAULTY_CATALOGUES[0][0], FAULTY_FIELDS[0][0])

    def test_there_is_no_refusal_where_there_is_no_cover(self):
        self.check([0], NO_PLATE, FAULTY_FIELDS[0][0])
        self.check([0], catalogue_of((6, 4)), field_of("1"))

    def test_a_catalogue_that_is_too_long(self):
        # More than the interface lets be handed in; the calls' words name it all the same.
        self.check([-2], TOO_LONG_CATALOGUE, field_of("1"))
        self.check([-2], TOO_LONG_CATALOGUE, "")
        self.check([-6], TOO_LONG_CATALOGUE[:1048576], field_of("1"))

    def test_lengths_of_fields(self):
        for length, refusal in ((16383, -10), (16384, -10), (16385, -2), (16500, -2)):
            self.check([refusal], ONE, field_of("1").ljust(length, "\n"))
            self.check([refusal], ONE, "x" * length)

    def test_texts_cut_off(self):
        f = field_of("1.", ".2")
        for length in range(len(f)):
            self.check([-10], ONE, f[:length])
        for length in range(len(ONE)):
            self.check([-6], ONE[:length], f)

    def test_catalogues_that_are_not_right(self):
        for c in (part_text("a", [["b"], ["b"]]), part_text("a", [["b", "."]]), part_text("a", [["b.b"]]),
                  catalogue_of((1, 1)) + full_part("p", 1, 1), part_text("a", [["t"], ["t"]])):
            self.check([-8], c, field_of("1"))
            self.check([-8], c, field_of("."))
            self.check([-8], c, "field")


class EachCallByItself(CountCase):
    def test_other_calls_between(self):
        given = [(ONE, field_of("111")), (ALL, field_of("111")), (ONE, field_of("...")), (ONE, ""), ("", field_of("1")),
                 (catalogue_of((2, 1)), field_of("111")), (ALL, field_of("11", "11"))]
        forth = [count(to_bytes(c), to_bytes(f)) for c, f in given]
        back = [count(to_bytes(c), to_bytes(f)) for c, f in reversed(given)]
        self.assertEqual([[1], [4], [1], [-10], [-6], [0], [8]], forth)
        self.assertEqual(forth, back[::-1])


class InSeconds(CountCase):
    def test_the_greatest_field_with_plates_of_all_sizes(self):
        for f in (whole(6, 12), field_of(*["111111"] * 7 + ["11.111"] + ["111111"] * 4)):
            start = time.process_time()
            count(to_bytes(ALL), to_bytes(f))
            self.assertLess(time.process_time() - start, 10)
