"""judge(f): how many places have a colour, or the refusal with its fault."""

import random

from platecover.covers import judge
from tests.helper import COLOURS, CallCase, expected_judge, field_text

SAMPLES = (
    field_text(1, 1, ["."]),
    field_text(2, 3, ["0.", ".9", "55"]),
    field_text(6, 2, ["......", "012345"]),
    field_text(3, 12, ["1.1"] * 12),
)


class JudgeCase(CallCase):
    call = judge

    def check_fault(self, fault, text):
        self.check([-10, fault], text)


class Counting(JudgeCase):
    def test_all_places_coloured_in_every_size(self):
        for width in range(1, 7):
            for depth in range(1, 13):
                self.check([width * depth], field_text(width, depth, ["7" * width] * depth))

    def test_no_place_coloured_in_every_size(self):
        for width in range(1, 7):
            for depth in range(1, 13):
                self.check([0], field_text(width, depth, ["." * width] * depth))

    def test_one_place_coloured_wherever_it_is(self):
        for at in range(72):
            places = "." * at + "0" + "." * (71 - at)
            rows = [places[k:k + 6] for k in range(0, 72, 6)]
            self.check([1], field_text(6, 12, rows))

    def test_one_place_without_colour_wherever_it_is(self):
        for at in range(72):
            places = "9" * at + "." + "9" * (71 - at)
            rows = [places[k:k + 6] for k in range(0, 72, 6)]
            self.check([71], field_text(6, 12, rows))

    def test_each_colour(self):
        for colour in COLOURS:
            self.check([1], f"field 1 1\n{colour}\n")
            self.check([2], f"field 3 1\n{colour}.{colour}\n")

    def test_some_places_coloured(self):
        self.check([4], field_text(2, 3, ["0.", ".9", "55"]))
        self.check([10], field_text(6, 2, ["0123..", "456789"]))

    def test_sizes_at_the_edges(self):
        self.check([1], "field 1 1\n0\n")
        self.check([0], "field 1 1\n.\n")
        self.check([6], "field 6 1\n012345\n")
        self.check([12], "field 1 12\n" + "3\n" * 12)
        self.check([72], "field 6 12\n" + "333333\n" * 12)

    def test_made_at_random(self):
        source = random.Random(1)
        for turn in range(300):
            width = source.randint(1, 6)
            depth = source.randint(1, 12)
            rows = ["".join(source.choice(COLOURS + ".....") for x in range(width)) for y in range(depth)]
            coloured = width * depth - "".join(rows).count(".")
            self.check([coloured], field_text(width, depth, rows))


class Faults(JudgeCase):
    def test_the_empty_text(self):
        self.check_fault(0, "")

    def test_cut_off_anywhere(self):
        for text in SAMPLES:
            for length in range(len(text)):
                self.check_fault(length, text[:length])

    def test_each_byte_in_the_place_of_each(self):
        for text in SAMPLES:
            for at in range(len(text)):
                for byte in range(256):
                    changed = text[:at] + bytes([byte]).decode("latin-1") + text[at + 1:]
                    self.check(expected_judge(changed), changed)

    def test_a_byte_too_many_or_too_few_anywhere(self):
        for text in SAMPLES:
            for at in range(len(text)):
                without = text[:at] + text[at + 1:]
                self.check(expected_judge(without), without)
                for sign in "field 0123.\n\r\t-+\0":
                    longer = text[:at] + sign + text[at:]
                    self.check(expected_judge(longer), longer)

    def test_the_word(self):
        self.check_fault(0, "Field 1 1\n.\n")
        self.check_fault(0, " field 1 1\n.\n")
        self.check_fault(0, "\n")
        self.check_fault(0, "part a 1 1 1 1\nb\n")
        self.check_fault(4, "fiel 1 1\n.\n")
        self.check_fault(5, "fields 1 1\n.\n")
        self.check_fault(2, "fi\0ld 1 1\n.\n")

    def test_the_blanks(self):
        self.check_fault(5, "field1 1\n.\n")
        self.check_fault(5, "field\t1 1\n.\n")
        self.check_fault(6, "field  1 1\n.\n")
        self.check_fault(7, "field 1\n1\n.\n")
        self.check_fault(7, "field 1\n")
        self.check_fault(8, "field 1  1\n.\n")
        self.check_fault(9, "field 1 1 \n.\n")

    def test_the_width(self):
        self.check_fault(6, "field 0 1\n\n")
        self.check_fault(6, "field 01 1\n.\n")
        self.check_fault(6, "field 00 1\n.\n")
        self.check_fault(6, "field 7 1\n.......\n")
        self.check_fault(6, "field 9 1\n.........\n")
        self.check_fault(7, "field 10 1\n..........\n")
        self.check_fault(7, "field 66 1\n......\n")
        self.check_fault(6, "field +1 1\n.\n")
        self.check_fault(6, "field -1 1\n.\n")
        self.check_fault(6, "field x 1\n.\n")

    def test_the_depth(self):
        self.check_fault(8, "field 1 0\n")
        self.check_fault(8, "field 1 01\n.\n")
        self.check_fault(8, "field 1 012\n" + ".\n" * 12)
        self.check_fault(9, "field 1 13\n" + ".\n" * 13)
        self.check_fault(9, "field 1 19\n" + ".\n" * 19)
        self.check_fault(9, "field 1 20\n" + ".\n" * 20)
        self.check_fault(10, "field 1 100\n" + ".\n" * 100)
        self.check_fault(10, "field 1 120\n" + ".\n" * 120)
        self.check_fault(8, "field 1 \n")
        self.check_fault(8, "field 1 -1\n.\n")

    def test_the_end_of_the_head(self):
        self.check_fault(9, "field 1 1.\n")
        self.check_fault(9, "field 1 1\r\n.\n")
        self.check_fault(10, "field 1 1\n\n.\n")

    def test_a_place(self):
        for sign in "ab#x/:,- \0\x7f\xff\t\r":
            self.check_fault(10, f"field 2 2\n{sign}1\n11\n")
            self.check_fault(11, f"field 2 2\n1{sign}\n11\n")
            self.check_fault(14, f"field 2 2\n11\n1{sign}\n")

    def test_the_end_of_a_row(self):
        self.check_fault(11, "field 2 2\n1\n11\n")
        self.check_fault(12, "field 2 2\n111\n11\n")
        self.check_fault(12, "field 2 2\n1111\n")
        self.check_fault(12, "field 2 2\n11\r\n11\n")
        self.check_fault(15, "field 2 2\n11\n11")
        self.check_fault(15, "field 2 2\n11\n11 ")

    def test_rows_too_few_or_too_many(self):
        self.check_fault(13, "field 2 2\n11\n")
        self.check_fault(16, "field 2 2\n11\n11\n11\n")

    def test_bytes_behind_the_end(self):
        for tail in ("\n", "\0", " ", ".", "0", "field 1 1\n.\n"):
            for text in SAMPLES:
                self.check_fault(len(text), text + tail)

    def test_the_greatest_fault(self):
        text = field_text(6, 12, ["......"] * 12)
        self.check_fault(94, text[:94])
        self.check_fault(95, text + "\n")

    def test_bytes_at_random(self):
        source = random.Random(2)
        for turn in range(2000):
            text = source.choice(SAMPLES)
            signs = list(text)
            for change in range(source.randint(1, 3)):
                at = source.randrange(len(signs))
                signs[at:at + source.randint(0, 2)] = source.choices("field 0123456789.\n", k=source.randint(0, 2))
            changed = "".join(signs)
            self.check(expected_judge(changed), changed)


class Lengths(JudgeCase):
    def test_as_long_as_may_be(self):
        for text in SAMPLES:
            self.check_fault(len(text), text + "\n" * (16384 - len(text)))
        self.check_fault(0, "." * 16384)
        self.check_fault(16, "field 2 2\n11\n11\n" + "11\n" * 5456)
        self.check_fault(7, "field 1" + "1" * 16377)
        self.check_fault(6, "field " + "0" * 16378)

    def test_too_long(self):
        for text in ("",) + SAMPLES:
            for length in (16385, 16386, 16500):
                self.check([-2], text + "\n" * (length - len(text)))


class EachCallByItself(JudgeCase):
    def test_other_calls_between(self):
        texts = SAMPLES + ("", "field 1", "." * 16385, "field 1 1\n0\n")
        given = [list(text.encode()) for text in texts]
        forth = [judge(text) for text in given]
        back = [judge(text) for text in reversed(given)]
        self.assertEqual([[0], [4], [6], [24], [-10, 0], [-10, 7], [-2], [1]], forth)
        self.assertEqual(forth, back[::-1])
