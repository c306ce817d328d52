"""first(c, f, s): the text of the first of the covers with the fewest lines, or the refusal."""

import random
import time

from platecover.covers import fewest, first
from tests.helper import (
    ALL_SIZES, FAULTY_CATALOGUES, FAULTY_FIELDS, NAMES, NO_NAMES, NO_PLATE, TOO_LONG_CATALOGUE, CallCase, all_covers,
    catalogue_of, colours_of, cover_text, field_of, field_text, foremost, full_part, laid, part_text,
    random_catalogue, random_field, rest_of, row_by_row, sizes_of_plates, small_cases, to_bytes, ways_from_the_back,
    with_length,
)

ONE = catalogue_of((1, 1))
ALL = catalogue_of(*ALL_SIZES)


class FirstCase(CallCase):
    call = first

    def check_lines(self, lines, c, f):
        """The lines as they must be, told without what they all share."""
        text = "build x\n" + "".join(f"put {line} 0 0\n" for line in lines)
        self.check(with_length(text), c, f, "x")


class ByHand(FirstCase):
    def test_one_place(self):
        self.check([26] + to_bytes("build a\nput p00 7 0 0 0 0\n"), ONE, field_of("7"), "a")
        self.check([26] + to_bytes("build a\nput p00 0 0 0 0 0\n"), ONE, field_of("0"), "a")
        self.check([29] + to_bytes("build ab0\nput p00 9 2 11 0 0\n"), ONE, field_of(*["..."] * 11 + ["..9"]), "ab0")

    def test_the_name_of_the_part(self):
        for name in ("a", "z", "abcdefgh", "a0000000", "put"):
            text = f"build a\nput {name} 7 0 0 0 0\n"
            self.check(with_length(text), full_part(name, 1, 1), field_of("7"), "a")

    def test_all_places_in_order(self):
        self.check_lines(
            ["p00 1 0 0", "p00 2 1 0", "p00 3 0 1", "p00 4 1 1", "p00 5 0 2", "p00 6 1 2"],
            ONE, field_of("12", "34", "56"))

    def test_as_few_lines_the_lesser_part_first(self):
        f = field_of("111")
        self.check_lines(["p00 1 0 0", "p01 1 1 0"], catalogue_of((1, 1), (2, 1)), f)
        self.check_lines(["p00 1 0 0", "p01 1 2 0"], catalogue_of((2, 1), (1, 1)), f)
        self.check_lines(["p00 1 0 0", "p01 1 0 1"], catalogue_of((1, 1), (1, 2)), field_of(*"111"))
        self.check_lines(["p00 1 0 0", "p01 1 0 2"], catalogue_of((1, 2), (1, 1)), field_of(*"111"))

    def test_as_few_lines_come_before_the_lesser_part(self):
        self.check_lines(["p01 1 0 0"], catalogue_of((1, 1), (3, 1)), field_of("111"))
        self.check_lines(["p01 1 0 0", "p01 1 0 2"], catalogue_of((1, 1), (2, 2)), field_of("11", "11", "11", "11"))

    def test_dominoes_on_a_square(self):
        f = field_of("44", "44")
        self.check_lines(["p00 4 0 0", "p00 4 1 0"], catalogue_of((1, 2), (2, 1)), f)
        self.check_lines(["p00 4 0 0", "p00 4 0 1"], catalogue_of((2, 1), (1, 2)), f)

    def test_three_rows_or_three_columns(self):
        f = field_of("888", "888", "888")
        rows = ["p00 8 0 0", "p00 8 0 1", "p00 8 0 2"]
        columns = ["p00 8 0 0", "p00 8 1 0", "p00 8 2 0"]
        self.check_lines(rows, catalogue_of((3, 1), (1, 3), (1, 1), (2, 2)), f)
        self.check_lines(columns, catalogue_of((1, 3), (3, 1), (1, 1), (2, 2)), f)

    def test_a_lesser_plate_laid_first_though_a_greater_one_fits(self):
        # 1 and 4, 2 and 3, 3 and 2, 4 and 1 are all two lines.
        f = field_of("55555")
        sizes = [(1, 1), (2, 1), (3, 1), (4, 1)]
        self.check_lines(["p00 5 0 0", "p03 5 1 0"], catalogue_of(*sizes), f)
        self.check_lines(["p00 5 0 0", "p03 5 4 0"], catalogue_of(*sizes[::-1]), f)
        self.check_lines(["p00 5 0 0", "p01 5 3 0"], catalogue_of((3, 1), (2, 1), (1, 1), (4, 1)), f)

    def test_a_ring(self):
        f = field_of("222", "2.2", "222")
        self.check_lines(["p00 2 0 0", "p02 2 1 0", "p00 2 2 0", "p01 2 0 2"], catalogue_of((1, 2), (3, 1), (1, 1)), f)
        self.check_lines(["p00 2 0 0", "p01 2 1 0", "p00 2 2 1", "p01 2 0 2"], catalogue_of((1, 2), (2, 1)), f)

    def test_colours_are_kept_apart(self):
        self.check_lines(["p01 1 0 0", "p00 2 2 0", "p01 2 0 1", "p00 1 2 1"],
                         catalogue_of((1, 1), (2, 1), (3, 1), (3, 2)), field_of("112", "221"))

    def test_the_greatest_field(self):
        f = field_of(*["666666"] * 12)
        self.check_lines(["p23 6 0 0", "p23 6 0 4", "p23 6 0 8"], ALL, f)
        squares = [f"p00 {(x + y) % 2} {x} {y}" for y in range(12) for x in range(6)]
        self.check_lines(squares, ALL, field_of(*["010101", "101010"] * 6))
        self.check_lines([f"p05 {y % 10} 0 {y}" for y in range(12)], ALL,
                         field_of(*[figure * 6 for figure in "012345678901"]))

    def test_no_coloured_place(self):
        for c in (ONE, ALL, NO_PLATE):
            for width, depth in ((1, 1), (6, 1), (1, 12), (3, 4), (6, 12)):
                f = field_text(width, depth, ["." * width] * depth)
                self.check([8] + to_bytes("build a\n"), c, f, "a")
                self.check([23] + to_bytes("build abcdefghijklmnop\n"), c, f, "abcdefghijklmnop")

    def test_no_cover(self):
        self.check([-3], NO_PLATE, field_of("1"), "a")
        self.check([-3], catalogue_of((2, 1)), field_of("1"), "a")
        self.check([-3], catalogue_of((2, 1)), field_of("111"), "a")
        self.check([-3], catalogue_of((2, 1)), field_of("12"), "a")
        self.check([-3], catalogue_of((1, 2), (2, 1)), field_of(".111", "1111", "1111", "111."), "a")
        self.check([-3], catalogue_of(*ALL_SIZES[1:]), field_of(*["......"] * 11 + [".....1"]), "a")

    def test_of_a_size_the_part_with_the_least_number(self):
        c = part_text("a", [["s"]]) + part_text("b", [["b"]]) + part_text("c", [["b"]])
        self.check_lines(["b 1 0 0", "b 1 1 0"], c, field_of("11"))

    def test_the_order_is_that_of_the_numbers(self):
        # a10 is ahead of a9, and has the lesser number.
        c = full_part("a10", 2, 1) + full_part("a9", 1, 1)
        self.check_lines(["a10 1 0 0", "a9 1 2 0"], c, field_of("111"))


class AllCoversGoneThrough(FirstCase):
    def test_small_fields(self):
        several = 0
        for c, f in small_cases(21, 1500):
            covers = all_covers(c, f, ways_from_the_back)
            if not covers:
                self.check([-3], c, f, "n")
                continue
            least = min(len(cover) for cover in covers)
            of_fewest = [cover for cover in covers if len(cover) == least]
            several += len(of_fewest) > 1
            self.check(with_length(cover_text(c, "n", of_fewest[0])), c, f, "n")
        self.assertGreater(several, 150)


def lines_of(text):
    """The lines of a cover's text: part's name, colour, x, y."""
    rows = [row.split() for row in text.split("\n")[1:-1]]
    return [(row[1], *map(int, row[2:5])) for row in rows]


class GreatFields(FirstCase):
    """There are too many covers to go through, but what is left of a field is a field."""

    def look_at(self, c, f):
        colours = colours_of(f)
        numbers = {f"n{number:02d}": number for number in range(64)}
        sizes = sizes_of_plates(c)
        least = row_by_row(c, f)[0]
        got = first(to_bytes(c), to_bytes(f), to_bytes("g"))
        if least is None:
            self.assertEqual([-3], got)
            return 0
        text = bytes(got[1:]).decode()
        self.assertEqual([len(text), "build g"], [got[0], text.split("\n")[0]])
        lines = lines_of(text)
        self.assertEqual(least, len(lines))
        for at, (name, colour, x, y) in enumerate(lines):
            self.assertEqual((x, y), min(colours, key=lambda place: (place[1], place[0])))
            for part in sizes:
                under = laid(sizes[part], x, y)
                fits = all(colours.get(place) == colour for place in under)
                left = {place: value for place, value in colours.items() if place not in under}
                if part < numbers[name] and fits:
                    behind = row_by_row(c, rest_of(f, left))[0]
                    self.assertTrue(behind is None or at + 1 + behind > least, (c, f, text))
                if part == numbers[name]:
                    self.assertTrue(fits)
                    after = left
            colours = after
        self.assertEqual({}, colours)
        return len(lines)

    def test_none_of_as_few_is_before_it(self):
        source = random.Random(22)
        lengths = []
        for turn in range(25):
            sizes = source.sample(ALL_SIZES, source.randint(2, 5))
            c = random_catalogue(source, sorted({(1, 1), *sizes}))
            signs = source.choice(("1", "111111111.", "0000000000000001", "12", "5555555555556."))
            f = random_field(source, source.randint(3, 5), source.randint(4, 8), signs)
            lengths.append(self.look_at(c, f))
        self.assertGreater(max(lengths), 9)


class Names(FirstCase):
    def test_names_as_they_are_handed_in(self):
        for name in NAMES:
            text = f"build {name}\nput p00 1 0 0 0 0\n"
            self.check(with_length(text), ONE, field_of("1"), name)

    def test_each_byte(self):
        for byte in range(256):
            sign = bytes([byte]).decode("latin-1")
            letter = "a" <= sign <= "z"
            for name, is_one in ((sign, letter), ("a" + sign, letter or "0" <= sign <= "9")):
                expected = with_length(f"build {name}\n") if is_one else [-1]
                self.check(expected, ONE, field_of("."), name)

    def test_each_length(self):
        for length in range(41):
            name = "abcdefgh01234567abcdefgh01234567abcdefgh"[:length]
            expected = with_length(f"build {name}\n") if 1 <= length <= 16 else [-1]
            self.check(expected, ONE, field_of("."), name)

    def test_a_wrong_sign_anywhere(self):
        for length in range(1, 17):
            for at in range(length):
                self.check([-1], ONE, field_of("1"), "a" * at + "-" + "a" * (length - at - 1))

    def test_names_that_are_none(self):
        for name in NO_NAMES:
            self.check([-1], ONE, field_of("1"), name)
            self.check([-1], ONE, field_of("."), name)


class Refused(FirstCase):
    def test_each_refusal_and_their_order(self):
        for c, of_catalogue in FAULTY_CATALOGUES:
            for f, of_field in FAULTY_FIELDS:
                for s, of_name in (("a", ()), ("", (-1,)), ("A", (-1,)), ("a" * 17, (-1,))):
                    if of_catalogue + of_field + of_name:
                        self.check(foremost(of_catalogue, of_field, of_name), c, f, s)

    def test_a_catalogue_that_is_too_long(self):
        # More than the interface lets be handed in; the calls' words name it all the same.
        self.check([-2], TOO_LONG_CATALOGUE, field_of("1"), "a")
        self.check([-1], TOO_LONG_CATALOGUE, field_of("1"), "1")
        self.check([-6], TOO_LONG_CATALOGUE[:1048576], field_of("1"), "a")

    def test_lengths_of_fields(self):
        for length, refusal in ((16383, -10), (16384, -10), (16385, -2), (16500, -2)):
            self.check([refusal], ONE, field_of("1").ljust(length, "\n"), "a")
            self.check([refusal], ONE, "x" * length, "a")


class EachCallByItself(FirstCase):
    def test_other_calls_between(self):
        given = [(ONE, field_of("1"), "a"), (ONE, field_of("1"), "b"), (catalogue_of((2, 1)), field_of("11"), "a"),
                 (ONE, field_of("1"), ""), (NO_PLATE, field_of("1"), "a"), (ONE, field_of("."), "a")]
        bare = [[to_bytes(value) for value in one] for one in given]
        forth = [first(*one) for one in bare]
        back = [first(*one) for one in reversed(bare)]
        line = "put p00 1 0 0 0 0\n"
        expected = [with_length("build a\n" + line), with_length("build b\n" + line), with_length("build a\n" + line),
                    [-1], [-3], with_length("build a\n")]
        self.assertEqual(expected, forth)
        self.assertEqual(forth, back[::-1])


class InSeconds(FirstCase):
    def test_the_greatest_field_with_plates_of_all_sizes(self):
        for f in (field_of(*["111111"] * 12), field_of(*["111111"] * 7 + ["11.111"] + ["111111"] * 4)):
            start = time.process_time()
            got = first(to_bytes(ALL), to_bytes(f), to_bytes("a"))
            self.assertLess(time.process_time() - start, 10)
            self.assertEqual(fewest(to_bytes(ALL), to_bytes(f)), [bytes(got[1:]).count(b"put")])
