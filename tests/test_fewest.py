"""fewest(c, f): the fewest lines that a cover has, or the refusal."""

import random
import time

from platecover.covers import fewest
from tests.helper import (
    ALL_SIZES, FAULTY_CATALOGUES, FAULTY_FIELDS, NO_PLATE, TOO_LONG_CATALOGUE, CallCase, all_covers, catalogue_of,
    field_of, field_text, foremost, full_part, part_text, random_catalogue, random_field, row_by_row, small_cases,
    to_bytes, ways_from_the_back,
)

ONE = catalogue_of((1, 1))
ALL = catalogue_of(*ALL_SIZES)
DOMINOES = catalogue_of((1, 2), (2, 1))


class FewestCase(CallCase):
    call = fewest


class Answered(FewestCase):
    def test_no_coloured_place(self):
        for c in (ONE, ALL, NO_PLATE, catalogue_of((6, 4))):
            for width in range(1, 7):
                for depth in range(1, 13):
                    self.check([0], c, field_text(width, depth, ["." * width] * depth))

    def test_one_place(self):
        for colour in "0123456789":
            self.check([1], ONE, field_of(colour))
            self.check([1], ALL, field_of(colour))
            self.check([1], ONE, field_of("..", "." + colour))

    def test_plates_of_one_place_alone(self):
        for width in range(1, 7):
            for depth in range(1, 13):
                self.check([width * depth], ONE, field_text(width, depth, ["5" * width] * depth))

    def test_one_row(self):
        for width in range(1, 7):
            self.check([1], ALL, field_of("3" * width))
            self.check([(width + 1) // 2], catalogue_of((1, 1), (2, 1)), field_of("3" * width))
            self.check([width], catalogue_of((1, 1), (1, 2)), field_of("3" * width))
        self.check([3], ALL, field_of("11.223"))
        self.check([6], ALL, field_of("121212"))
        self.check([2], ALL, field_of("1.1..."))
        self.check([3], ALL, field_of("112233"))

    def test_one_column(self):
        for depth in range(1, 13):
            self.check([(depth + 3) // 4], ALL, field_of(*"4" * depth))
            self.check([(depth + 1) // 2], catalogue_of((1, 1), (1, 2)), field_of(*"4" * depth))
            self.check([depth], catalogue_of((1, 1), (2, 1)), field_of(*"4" * depth))
        self.check([12], ALL, field_of(*"010101010101"))
        self.check([6], ALL, field_of(*"1.1.1.1.1.1."))
        self.check([3], ALL, field_of(*"111100009999"))

    def test_the_greatest_field_in_one_colour(self):
        f = field_of(*["888888"] * 12)
        self.check([3], ALL, f)
        self.check([3], catalogue_of((6, 4)), f)
        self.check([72], ONE, f)
        self.check([36], DOMINOES, f)
        self.check([12], catalogue_of((1, 1), (6, 1)), f)
        self.check([18], catalogue_of((1, 4)), f)
        self.check([8], catalogue_of((3, 3)), f)
        self.check([9], catalogue_of((2, 4), (1, 1)), f)
        self.check([-3], catalogue_of((5, 4)), f)
        self.check([-3], catalogue_of((4, 4), (5, 3)), f)

    def test_the_greatest_field_in_many_colours(self):
        rows = field_of(*[figure * 6 for figure in "012345678901"])
        self.check([12], ALL, rows)
        self.check([72], catalogue_of((1, 1), (1, 2), (2, 2), (6, 4)), rows)
        self.check([-3], catalogue_of((1, 2), (6, 4)), rows)
        columns = field_of(*["012345"] * 12)
        self.check([18], ALL, columns)
        self.check([72], catalogue_of((1, 1), (2, 1)), columns)
        self.check([-3], catalogue_of((2, 1), (6, 4)), columns)
        squares = field_of(*["010101", "101010"] * 6)
        self.check([72], ALL, squares)
        self.check([-3], catalogue_of(*ALL_SIZES[1:]), squares)
        quarters = field_of(*["111222"] * 6 + ["333444"] * 6)
        self.check([8], ALL, quarters)

    def test_the_greatest_field_with_places_that_have_no_colour(self):
        self.check([36], ALL, field_of(*["1.1.1.", ".1.1.1"] * 6))
        self.check([9], ALL, field_of(*["1.1.1."] * 12))
        self.check([6], ALL, field_of(*["111111", "......"] * 6))
        self.check([8], ALL, field_of(*["11..22", "11..22", "......"] * 4))
        self.check([4], ALL, field_of(*["111111"] + ["1....1"] * 4 + ["111111"] + ["......"] * 6))
        self.check([34], DOMINOES, field_of(*["..1111"] + ["111111"] * 10 + ["1111.."]))

    def test_greater_plates_save_lines(self):
        f = field_of("111", "111", "111")
        self.check([9], ONE, f)
        self.check([6], catalogue_of((1, 1), (2, 1)), f)
        self.check([6], catalogue_of((1, 1), (2, 2)), f)
        self.check([3], catalogue_of((1, 1), (3, 1)), f)
        self.check([3], catalogue_of((1, 3), (1, 1), (2, 2)), f)
        self.check([2], catalogue_of((1, 3), (1, 1), (2, 3)), f)
        self.check([1], catalogue_of((3, 3), (1, 3), (1, 1), (2, 3)), f)

    def test_the_greatest_plate_first_is_not_the_fewest(self):
        self.check([2], catalogue_of((1, 1), (3, 1), (4, 1)), field_of("000000"))
        self.check([2], catalogue_of((4, 1), (3, 1), (1, 1)), field_of("000000"))
        self.check([2], catalogue_of((1, 4), (1, 3), (1, 1)), field_of(*"000000"))
        self.check([3], catalogue_of((2, 2), (1, 3), (1, 1)), field_of("111", "111", "111"))

    def test_the_greatest_plate_first_leads_nowhere(self):
        self.check([2], catalogue_of((3, 1), (4, 1)), field_of("000000"))
        self.check([2], catalogue_of((4, 1), (3, 1)), field_of("000000"))
        self.check([2], catalogue_of((2, 1), (3, 1)), field_of("2222"))
        self.check([3], catalogue_of((2, 2), (1, 3)), field_of("111", "111", "111"))

    def test_a_plate_of_each_size(self):
        for width, depth in ALL_SIZES:
            f = field_text(6, 12, (["7" * width + "." * (6 - width)] * depth + ["......"] * 12)[:12])
            self.check([1], catalogue_of((width, depth)), f)
            if width * depth > 1:
                self.check([-3], catalogue_of((width, depth)), f.replace("7", ".", 1))
                self.check([-3], catalogue_of((width, depth)), f.replace("7", "6", 1))

    def test_only_plates_are_laid(self):
        f = field_of("11", "11")
        for sign in "#st":
            self.check([-3], full_part("a", 2, 2, 1, sign), f)
            self.check([4], full_part("a", 2, 2, 1, sign) + full_part("b", 1, 1), f)
        self.check([-3], part_text("a", [["bb", "bs"]]), f)
        self.check([-3], part_text("a", [["tt", "tt"], ["ss", "ss"]]), f)
        self.check([-3], part_text("a", [["bb", "b."]]), field_of("11", "1."))
        self.check([-3], full_part("a", 1, 5), field_of(*"11111"))

    def test_plates_are_not_turned(self):
        self.check([-3], catalogue_of((2, 1)), field_of("1", "1"))
        self.check([-3], catalogue_of((1, 2)), field_of("11"))
        self.check([-3], catalogue_of((3, 2)), field_of("11", "11", "11"))

    def test_plates_do_not_go_round_the_end_of_a_row(self):
        self.check([-3], catalogue_of((2, 1)), field_of("..1", "1.."))
        self.check([-3], catalogue_of((2, 2)), field_of("..1", "1.1", "1.."))

    def test_64_parts(self):
        sizes = [(width, depth) for depth in range(1, 9) for width in range(1, 9)]
        c = "".join(full_part(f"n{number:02d}", *size) for number, size in enumerate(sizes))
        self.check([3], c, field_of(*["111111"] * 12))
        self.check([2], c, field_of("111111", "...222"))


class NoCover(FewestCase):
    def test_a_catalogue_without_plates(self):
        for c in (NO_PLATE, full_part("a", 7, 1), full_part("a", 1, 5), full_part("a", 2, 2, 2, "#")):
            self.check([-3], c, field_of("1"))
            self.check([-3], c, field_of(*["......"] * 11 + [".....0"]))
            self.check([-3], c, field_of(*["111111"] * 12))
            self.check([0], c, field_of("."))

    def test_plates_that_are_too_great(self):
        self.check([-3], catalogue_of((2, 1), (1, 2), (6, 4)), field_of("1"))
        self.check([-3], catalogue_of((2, 1), (1, 2), (6, 4)), field_of("1.", ".1"))
        self.check([-3], catalogue_of((3, 1)), field_of("11"))
        self.check([-3], catalogue_of((1, 3)), field_of("1", "1"))

    def test_an_odd_number_of_places(self):
        self.check([-3], DOMINOES, field_of("111", "111", "111"))
        self.check([-3], DOMINOES, field_of(*["111111"] * 11 + ["11111."]))

    def test_two_corners_gone(self):
        self.check([-3], DOMINOES, field_of(".11111", *["111111"] * 4, "11111."))
        self.check([-3], DOMINOES, field_of(".44444", *["444444"] * 10, "44444."))
        self.check([17], DOMINOES, field_of(".11111", *["111111"] * 4, ".11111"))

    def test_two_colours_side_by_side(self):
        self.check([-3], catalogue_of((2, 1)), field_of("12"))
        self.check([-3], catalogue_of((1, 2)), field_of("1", "2"))
        self.check([-3], catalogue_of((2, 2)), field_of("11", "12"))


class AllCoversGoneThrough(FewestCase):
    def test_small_fields(self):
        seen = {}
        for c, f in small_cases(11, 1500):
            lengths = [len(cover) for cover in all_covers(c, f, ways_from_the_back)]
            expected = min(lengths) if lengths else -3
            seen[expected] = seen.get(expected, 0) + 1
            self.check([expected], c, f)
        self.assertGreater(min(seen[number] for number in (-3, 0, 1, 2, 3, 4, 5)), 10)

    def test_the_ways_to_go_through_agree(self):
        for c, f in small_cases(12, 150):
            self.assertEqual(all_covers(c, f), all_covers(c, f, ways_from_the_back))


class RowByRow(FewestCase):
    def test_the_way_to_go_row_by_row_agrees(self):
        for c, f in small_cases(13, 200):
            covers = all_covers(c, f, ways_from_the_back)
            least = min([len(cover) for cover in covers], default=None)
            self.assertEqual((least, len(covers)), row_by_row(c, f))

    def test_great_fields(self):
        source = random.Random(14)
        none = 0
        for turn in range(60):
            sizes = source.sample(ALL_SIZES, source.randint(1, 8))
            c = random_catalogue(source, list({(1, 1), *sizes} if turn % 3 else sizes))
            signs = source.choice(("1", "11111111.", "0000000000000001", "12", "0123456789", "5555555555556."))
            f = random_field(source, source.randint(4, 6), source.randint(5, 12), signs)
            least = row_by_row(c, f)[0]
            none += least is None
            self.check([-3] if least is None else [least], c, f)
        self.assertLess(none, 30)


class Refused(FewestCase):
    def test_each_refusal_and_their_order(self):
        for c, of_catalogue in FAULTY_CATALOGUES:
            for f, of_field in FAULTY_FIELDS:
                if of_catalogue + of_field:
                    self.check(foremost(of_catalogue, of_field), c, f)
        self.check([3], FAULTY_CATALOGUES[0][0], FAULTY_FIELDS[0][0])

    def test_a_catalogue_that_is_too_long(self):
        # More than the interface lets be handed in; the calls' words name it all the same.
        self.check([-2], TOO_LONG_CATALOGUE, field_of("1"))
        self.check([-2], TOO_LONG_CATALOGUE, "")
        self.check([-6], TOO_LONG_CATALOGUE[:1048576], field_of("1"))

    def test_lengths_of_fields(self):
        for length, refusal in ((16383, -10), (16384, -10), (16385, -2), (16500, -2)):
            self.check([refusal], ONE, field_of("1").ljust(length, "\n"))
            self.check([refusal], ONE, "x" * length)

    def test_the_fault_is_not_told(self):
        f = field_of("1.", ".2")
        for length in range(len(f)):
            self.check([-10], ONE, f[:length])
        for at in range(len(f)):
            self.check([-10], ONE, f[:at] + "x" + f[at + 1:])

    def test_catalogues_that_are_none(self):
        c = catalogue_of((1, 1), (2, 1))
        for length in range(len(c)):
            self.check([4] if length == len(catalogue_of((1, 1))) else [-6], c[:length], field_of("11", "11"))

    def test_catalogues_that_are_not_right(self):
        for c in (part_text("a", [["b"], ["b"]]), part_text("a", [["b", "."]]), part_text("a", [["b.b"]]),
                  catalogue_of((1, 1)) + full_part("p", 1, 1), part_text("a", [["t"], ["t"]])):
            self.check([-8], c, field_of("1"))
            self.check([-8], c, field_of("."))
            self.check([-8], c, "field")


class EachCallByItself(FewestCase):
    def test_other_calls_between(self):
        given = [(ONE, field_of("111")), (catalogue_of((3, 1)), field_of("111")), (ONE, field_of("...")), (ONE, ""),
                 ("", field_of("1")), (catalogue_of((2, 1)), field_of("111")), (ALL, field_of("111", "1.1", "111"))]
        forth = [fewest(to_bytes(c), to_bytes(f)) for c, f in given]
        back = [fewest(to_bytes(c), to_bytes(f)) for c, f in reversed(given)]
        self.assertEqual([[3], [1], [0], [-10], [-6], [-3], [4]], forth)
        self.assertEqual(forth, back[::-1])


class InSeconds(FewestCase):
    def test_the_greatest_field_with_plates_of_all_sizes(self):
        for f in (field_of(*["111111"] * 12), field_of(*["111111"] * 7 + ["11.111"] + ["111111"] * 4)):
            start = time.process_time()
            fewest(to_bytes(ALL), to_bytes(f))
            self.assertLess(time.process_time() - start, 10)
