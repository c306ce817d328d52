"""What the document promises over the whole program: E1 to E4 and MAIN, by the calls' answers alone."""

import random
import unittest

from platecover.covers import count, covers, fewest, first, judge, nth, number, plates
from tests.helper import (
    ALL_SIZES, Untouchable, catalogue_of, field_of, random_catalogue, random_field, small_cases, split_build, to_bytes,
)


class Whole(unittest.TestCase):
    def given(self, c, f):
        self.c = Untouchable(to_bytes(c))
        self.f = Untouchable(to_bytes(f))
        self.text_c = c
        self.text_f = f

    def told(self, answer):
        """The text that is told, which is as long as it's said to be."""
        self.assertEqual(answer[0], len(answer) - 1)
        return answer[1:]

    def lines(self, text):
        lines = split_build(self.text_c, bytes(text).decode())
        self.assertIsNotNone(lines)
        return lines

    def parts(self, text):
        return [line[0] for line in self.lines(text)]

    def is_a_cover(self, text):
        """E1 and E4, by the words and by the program."""
        self.assertEqual([0], covers(self.c, self.f, text))
        width = int(self.text_f.split()[1])
        rows = self.text_f.split("\n")[1:]
        sizes = {}
        for row in self.text_c.split("\n"):
            if row.startswith("part"):
                sizes[len(sizes)] = tuple(map(int, row.split()[2:4]))
        plates_here = plates(self.c)
        under = {}
        for part, colour, x, y, z, r in self.lines(text):
            self.assertIn(part, plates_here)
            for dx in range(sizes[part][0]):
                for dy in range(sizes[part][1]):
                    self.assertLess(x + dx, width)
                    self.assertNotIn((x + dx, y + dy), under)
                    self.assertEqual(str(colour), rows[y + dy][x + dx])
                    under[x + dx, y + dy] = True
        self.assertEqual(judge(self.f), [len(under)])

    def look_at_first(self):
        least = fewest(self.c, self.f)
        text = first(self.c, self.f, to_bytes("one"))
        if least == [-3]:
            self.assertEqual([-3], text)
            return None
        text = self.told(text)
        self.is_a_cover(text)
        self.assertEqual(least, [len(self.lines(text))])
        return text


class SmallFields(Whole):
    def test_first_nth_number_covers_and_count(self):
        told = 0
        for c, f in small_cases(71, 250):
            self.given(c, f)
            how_many = count(self.c, self.f)[0]
            text = self.look_at_first()
            self.assertEqual(how_many == 0, text is None)
            self.assertEqual([-3], nth(how_many, self.c, self.f, to_bytes("a")))
            if how_many <= 60:
                rows = [self.look_at_nth(i) for i in range(how_many)]
                self.assertEqual(sorted(rows), rows)
                self.assertEqual(how_many, len(set(rows)))
                told += how_many
                if rows:
                    few = [row for row in rows if [len(row)] == fewest(self.c, self.f)]
                    self.assertEqual(few[0], tuple(self.parts(text)))
                    self.assertEqual(min(map(len, rows)), len(few[0]))
                    self.assertEqual([rows.index(few[0])], number(self.c, self.f, text))
        self.assertGreater(told, 500)

    def look_at_nth(self, i):
        text = self.told(nth(i, self.c, self.f, to_bytes("a")))
        self.is_a_cover(text)
        self.assertEqual([i], number(self.c, self.f, text))
        return tuple(self.parts(text))


class GreatFields(Whole):
    def look_at_numbers(self, source, turns):
        how_many = count(self.c, self.f)[0]
        numbers = sorted({0, how_many - 1, *[source.randrange(how_many) for turn in range(turns)]})
        rows = []
        for i in numbers:
            text = self.told(nth(i, self.c, self.f, to_bytes("a")))
            self.is_a_cover(text)
            self.assertEqual([i], number(self.c, self.f, text))
            rows.append(self.parts(text))
        for before, behind in zip(rows, rows[1:]):
            self.assertLess(before, behind)
        self.assertEqual([-3], nth(how_many, self.c, self.f, to_bytes("a")))
        return how_many

    def look_at_those_before_first(self, source, text):
        """Of the covers before the first one with the fewest lines none has as few."""
        at = number(self.c, self.f, text)[0]
        few = len(self.lines(text))
        numbers = {at - 1, at - 2, 0, *[source.randrange(max(at, 1)) for turn in range(6)]}
        for i in sorted(i for i in numbers if 0 <= i < at):
            before = self.told(nth(i, self.c, self.f, to_bytes("a")))
            self.assertGreater(len(self.lines(before)), few)

    def test_the_greatest_field(self):
        source = random.Random(72)
        for order in (ALL_SIZES, source.sample(ALL_SIZES, 24)):
            self.given(catalogue_of(*order), field_of(*["111111"] * 12))
            self.assertEqual(1036674585391059026595964, self.look_at_numbers(source, 3))
            self.assertEqual([3], fewest(self.c, self.f))
            self.look_at_those_before_first(source, self.look_at_first())

    def test_great_fields(self):
        source = random.Random(73)
        greatest = 0
        for turn in range(15):
            c = random_catalogue(source, sorted({(1, 1), *source.sample(ALL_SIZES, source.randint(3, 12))}))
            signs = source.choice(("1", "1", "11111111.", "0000000000000001", "12", "0123456789", "5555555555556."))
            self.given(c, random_field(source, source.randint(4, 6), source.randint(6, 12), signs))
            greatest = max(greatest, self.look_at_numbers(source, 5))
            self.look_at_those_before_first(source, self.look_at_first())
        self.assertGreater(greatest, 10 ** 12)
