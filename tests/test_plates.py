"""plates(c): the numbers of a right catalogue's plates, or the refusal."""

import random
import time

from platecover.covers import plates
from tests.helper import (
    CallCase, expected_plates, faults_of_catalogue, full_part, part_text, split_catalogue,
)


def names(count):
    """So many names that rise."""
    return [f"p{number:02d}" for number in range(count)]


def flat(name, *rows):
    return part_text(name, [list(rows)])


PLATE = flat("a", "b")
SAMPLE = full_part("a", 2, 1) + part_text("b1", [["t#", "t."], ["s.", ".."]], 9999) + full_part("c", 1, 3)


class PlatesCase(CallCase):
    call = plates


class Right(PlatesCase):
    def test_one_part(self):
        self.check([0], PLATE)
        self.check([], flat("a", "#"))
        self.check([0], full_part("a", 6, 4))

    def test_the_sample(self):
        self.check([0, 2], SAMPLE)

    def test_every_size_a_plate_can_have(self):
        for width in range(1, 17):
            for depth in range(1, 17):
                expected = [0] if width <= 6 and depth <= 4 else []
                self.check(expected, full_part("a", width, depth))

    def test_64_parts_no_plate(self):
        self.check([], "".join(flat(name, "s") for name in names(64)))

    def test_64_parts_all_of_one_size(self):
        self.check([0], "".join(flat(name, "b") for name in names(64)))

    def test_64_parts_the_last_alone_a_plate(self):
        self.check([63], "".join(flat(name, "t") for name in names(63)) + flat("q", "b"))

    def test_64_parts_with_all_24_plates(self):
        sizes = [(width, depth) for depth in range(1, 9) for width in range(1, 9)]
        text = "".join(full_part(name, *size) for name, size in zip(names(64), sizes))
        self.check([8 * y + x for y in range(4) for x in range(6)], text)

    def test_same_width_and_depth_the_least_number(self):
        self.check([1, 3], flat("a", "ss") + flat("b", "bb") + flat("c", "bb") + flat("d", "b") + flat("e", "b"))
        self.check([0, 2], flat("a", "b") + flat("b", "b") + flat("c", "bb") + flat("d", "b") + flat("e", "bb"))

    def test_same_size_but_the_first_is_no_plate(self):
        self.check([1], flat("a", "bs") + flat("b", "bb"))
        self.check([2], flat("a", "b.", "bb") + flat("b", "bb", "b#") + flat("c", "bb", "bb") + flat("d", "bb", "bb"))

    def test_turned_round_is_another_size(self):
        self.check([0, 1], full_part("a", 2, 3) + full_part("b", 3, 2))
        self.check([0, 1], full_part("a", 1, 4) + full_part("b", 4, 1))

    def test_the_weight_makes_no_difference(self):
        for weight in (1, 9, 10, 999, 1000, 9999):
            self.check([0], part_text("a", [["b"]], weight))
        self.check([0], part_text("a", [["b"]], 9) + part_text("b", [["b"]], 1))


class OneThingAmiss(PlatesCase):
    def test_height(self):
        self.check([], part_text("a", [["tt", "tt"], ["ss", "ss"]]))
        self.check([1], part_text("a", [["t"], ["s"]]) + flat("b", "b"))

    def test_width(self):
        self.check([0], full_part("a", 6, 4))
        self.check([], full_part("a", 7, 4))
        self.check([], full_part("a", 7, 1))
        self.check([], full_part("a", 16, 1))

    def test_depth(self):
        self.check([], full_part("a", 6, 5))
        self.check([], full_part("a", 1, 5))
        self.check([0], full_part("a", 5, 4))
        self.check([], full_part("a", 1, 16))

    def test_a_place(self):
        for sign in ".#st":
            for at in range(24):
                places = "b" * at + sign + "b" * (23 - at)
                self.check([], flat("a", *[places[k:k + 6] for k in range(0, 24, 6)]))

    def test_a_place_of_a_single_one(self):
        for sign in "#st":
            self.check([], flat("a", sign))


class NoCatalogue(PlatesCase):
    def refused(self, text):
        self.check([-6], text)

    def test_the_empty_text(self):
        self.refused("")

    def test_cut_off_anywhere(self):
        ends = [SAMPLE.index("part b1"), SAMPLE.index("part c"), len(SAMPLE)]
        for length in range(len(SAMPLE)):
            if length in ends:
                self.check([0], SAMPLE[:length])
            else:
                self.refused(SAMPLE[:length])

    def test_each_byte_in_the_place_of_each(self):
        for at in range(len(SAMPLE)):
            for byte in range(256):
                changed = SAMPLE[:at] + bytes([byte]).decode("latin-1") + SAMPLE[at + 1:]
                self.check(expected_plates(changed), changed)

    def test_a_byte_too_many_or_too_few_anywhere(self):
        for at in range(len(SAMPLE) + 1):
            without = SAMPLE[:at] + SAMPLE[at + 1:]
            self.check(expected_plates(without), without)
            for sign in "partz 019.#stb\n\r\t-\0":
                longer = SAMPLE[:at] + sign + SAMPLE[at:]
                self.check(expected_plates(longer), longer)

    def test_the_word(self):
        for word in ("", "Part", "par", "parts", " part", "field", "\npart"):
            self.refused(f"{word} a 1 1 1 1\nb\n")

    def test_the_name(self):
        for name in ("a", "z", "a0", "z9", "abcdefgh", "a1234567"):
            self.check([0], flat(name, "b"))
        for name in ("", "0", "9a", "A", "aB", "a_", "a-", "abcdefghi", "a12345678", "a b", "{", "a{", "`", "a/", "a:"):
            self.refused(flat(name, "b"))

    def test_the_blanks(self):
        for head in ("parta 1 1 1 1", "part  a 1 1 1 1", "part a1 1 1", "part a  1 1 1 1", "part a 1  1 1 1",
                     "part a 1 1  1 1", "part a 1 1 1  1", "part a 1 1 1 1 ", "part\ta 1 1 1 1", "part a 1 1 11",
                     "part a,1,1,1,1", "part a 1 1 1"):
            self.refused(head + "\nb\n")

    def test_width_and_depth(self):
        for size in range(1, 17):
            self.check([0] if size <= 6 else [], f"part a {size} 1 1 1\n" + "b" * size + "\n")
            self.check([0] if size <= 4 else [], f"part a 1 {size} 1 1\n" + "b\n" * size)
        for size in (0, 17, 18, 19, 20, 100, 160):
            self.refused(f"part a {size} 1 1 1\n" + "b" * size + "\n")
            self.refused(f"part a 1 {size} 1 1\n" + "b\n" * size)
        for written in ("01", "00", "+1", "-1", "1.", "x", ""):
            self.refused(f"part a {written} 1 1 1\nb\n")
            self.refused(f"part a 1 {written} 1 1\nb\n")

    def test_the_height(self):
        for size in range(2, 19):
            self.check([], f"part a 1 1 {size} 1\n" + "#\n" * size)
        for size in (0, 19, 20, 21, 100, 180):
            self.refused(f"part a 1 1 {size} 1\n" + "#\n" * size)
        for written in ("01", "00", "+1", "-1", "x", ""):
            self.refused(f"part a 1 1 {written} 1\nb\n")

    def test_the_weight(self):
        for written in ("0", "00", "01", "0001", "10000", "99999", "-1", "+1", "x", "", "1x", "1e3"):
            self.refused(f"part a 1 1 1 {written}\nb\n")

    def test_the_end_of_the_head(self):
        for end in ("", " ", "\r\n", "\n\n", "\0"):
            self.refused(f"part a 1 1 1 1{end}b\n")

    def test_a_place(self):
        for sign in "acBS0 -\0\x7f\xff\t\r\n":
            self.refused(f"part a 2 2 1 1\n{sign}b\nbb\n")
            self.refused(f"part a 2 2 1 1\nbb\nb{sign}\n")

    def test_rows_and_layers(self):
        self.refused("part a 2 2 1 1\nb\nbb\n")
        self.refused("part a 2 2 1 1\nbbb\nbb\n")
        self.refused("part a 2 2 1 1\nbbbb\n")
        self.refused("part a 2 2 1 1\nbb\n")
        self.refused("part a 2 2 1 1\nbb\nbb")
        self.refused("part a 2 2 1 1\nbb\nbb\nbb\n")
        self.refused("part a 1 1 2 1\nt\n")
        self.refused("part a 1 1 2 1\nt\n\ns\n")

    def test_bytes_behind_the_end(self):
        for tail in ("\n", " ", "\0", "b", "part", "part b 1 1 1 1\n"):
            self.refused(PLATE + tail)

    def test_a_65th_part(self):
        full = "".join(flat(name, "b") for name in names(64))
        self.check([0], full)
        for tail in ("p", "part", flat("q", "b"), flat("q", "b") + flat("r", "b")):
            self.refused(full + tail)

    def test_looked_at_before_what_is_not_right(self):
        self.refused(flat("a", ".") + "part")
        self.refused(flat("b", "b") + flat("a", "b") + "\n")
        self.refused("".join(flat("a", ".") for name in names(65)))

    def test_other_texts(self):
        self.refused("field 1 1\n0\n")
        self.refused("build a\n")
        self.refused("\0")


class NotRight(PlatesCase):
    def refused(self, fault, text):
        """Refused by -8, and for this point alone."""
        self.assertEqual({fault}, faults_of_catalogue(split_catalogue(text)))
        self.check([-8], text)
        self.check([-8], text + flat("z", "b"))
        self.check([-8], flat("a", "b") + text.replace("part a ", "part b "))

    def test_point_1_a_stud_below_a_cell(self):
        self.refused(1, part_text("a", [["s"], ["s"]]))
        self.refused(1, part_text("a", [["b"], ["#"]]))
        self.refused(1, part_text("a", [["tt", "tt"], ["ss", "s#"], ["..", ".s"], ["..", ".#"]]))
        self.check([], part_text("a", [["tt", "bt"], ["ss", ".s"]]))

    def test_point_1_a_stud_with_a_gap_above_it(self):
        self.check([], part_text("a", [["s#"], [".#"], ["##"]]))
        self.check([], part_text("a", [["##"], ["b#"], [".#"]]).replace("b", "s"))

    def test_point_2_a_tube_above_a_cell(self):
        self.refused(2, part_text("a", [["t"], ["t"]]))
        self.refused(2, part_text("a", [["#"], ["b"]]))
        self.refused(2, part_text("a", [["t.", ".."], ["#t", "tt"], ["##", "#t"]]))
        self.check([], part_text("a", [["t.", "t."], ["st", "st"]]))

    def test_point_2_a_tube_with_a_gap_below_it(self):
        self.check([], part_text("a", [["##"], [".#"], ["t#"]]))

    def test_point_3_a_side_without_a_cell(self):
        for rows in ([".b"], ["b."], ["..b", "..b"], ["b..", "b.."]):
            self.refused(3, flat("a", *rows))
        for rows in (["..", "bb"], ["bb", ".."], [".", "b"], ["b", "."]):
            self.refused(3, flat("a", *rows))
        self.refused(3, part_text("a", [["."], ["b"]]))
        self.refused(3, part_text("a", [["b"], ["."]]))
        self.refused(3, part_text("a", [["."], ["b"], ["."]]))

    def test_point_3_each_side_reached_by_one_cell_alone(self):
        layers = [["...", ".t.", "..."], [".#.", "###", ".#."], ["...", ".s.", "..."]]
        self.check([], part_text("a", layers))
        for x, y, z in ((0, 1, 1), (2, 1, 1), (1, 0, 1), (1, 2, 1), (1, 1, 0), (1, 1, 2)):
            changed = [[list(row) for row in layer] for layer in layers]
            changed[z][y][x] = "."
            self.refused(3, part_text("a", [["".join(row) for row in layer] for layer in changed]))

    def test_point_4_cells_apart(self):
        self.refused(4, flat("a", "b.b"))
        self.refused(4, flat("a", "b", ".", "b"))
        self.refused(4, part_text("a", [["b"], ["."], ["b"]]))
        self.refused(4, flat("a", "bbb", "...", "bbb"))

    def test_point_4_cells_that_touch_at_an_edge_or_a_corner_alone(self):
        self.refused(4, flat("a", "b.", ".b"))
        self.refused(4, flat("a", ".b", "b."))
        self.refused(4, part_text("a", [["b."], [".b"]]))
        self.refused(4, part_text("a", [["b", "."], [".", "b"]]))
        self.refused(4, part_text("a", [["b.", ".."], ["..", ".b"]]))

    def test_point_4_the_end_of_a_row_is_not_beside_the_next(self):
        self.refused(4, flat("a", "..b", "b.."))
        self.refused(4, part_text("a", [["..", "bb"], ["bb", ".."]]))

    def test_point_4_no_cell_at_all(self):
        for text in (flat("a", "."), full_part("a", 16, 16, 18, ".")):
            self.assertEqual({3, 4}, faults_of_catalogue(split_catalogue(text)))
            self.check([-8], text)

    def test_point_4_cells_in_a_ring_or_a_bow(self):
        self.check([], flat("a", "bbb", "b.b", "bbb"))
        self.check([], part_text("a", [["t.t"], ["###"]]))
        self.check([], part_text("a", [["###"], ["s.s"]]))

    def test_point_5_names(self):
        for first, second in (("a", "a"), ("b", "a"), ("ab", "a"), ("aa", "a9"), ("a2", "a10"), ("b", "azzzzzzz"),
                              ("abcdefgh", "abcdefgg"), ("a1", "a0"), ("a0", "a")):
            text = flat(first, "b") + flat(second, "bb")
            self.assertEqual({5}, faults_of_catalogue(split_catalogue(text)))
            self.check([-8], text)
            if first != second:
                self.check([0, 1], flat(second, "b") + flat(first, "bb"))

    def test_point_5_at_each_of_64_parts(self):
        rising = names(64)
        for at in range(1, 64):
            changed = rising[:at] + [rising[at - 1]] + rising[at + 1:]
            self.check([-8], "".join(flat(name, "b") for name in changed))

    def test_one_part_of_64_is_not_right(self):
        for at in range(64):
            parts = [flat(name, "b") for name in names(64)]
            parts[at] = flat(names(64)[at], "b.b")
            self.check([-8], "".join(parts))


class EachCallByItself(PlatesCase):
    def test_other_calls_between(self):
        texts = (PLATE, "", SAMPLE, flat("a", "."), full_part("a", 2, 3), flat("b", "b") + flat("a", "b"), "part", PLATE)
        given = [list(text.encode()) for text in texts]
        forth = [plates(text) for text in given]
        back = [plates(text) for text in reversed(given)]
        self.assertEqual([[0], [-6], [0, 2], [-8], [0], [-8], [-6], [0]], forth)
        self.assertEqual(forth, back[::-1])


class AtRandom(PlatesCase):
    def part(self, source, name):
        width, depth, height = (source.choice((1, 1, 2, 2, 3)) for axis in range(3))
        signs = source.choice(("b", "b", "bbbbs", "#", "##.", "#.st", ".#stb"))
        layers = [["".join(source.choices(signs, k=width)) for y in range(depth)] for z in range(height)]
        return part_text(name, layers, source.randint(1, 9999))

    def test_small_catalogues(self):
        source = random.Random(3)
        seen = set()
        for turn in range(6000):
            count = source.randint(1, 4)
            chosen = sorted(source.sample(("a", "a1", "ab", "b", "b0", "c"), count))
            if source.random() < 0.05:
                source.shuffle(chosen)
            text = "".join(self.part(source, name) for name in chosen)
            expected = expected_plates(text)
            seen.add(tuple(expected))
            self.check(expected, text)
        self.assertGreater(len(seen), 8)

    def test_larger_parts(self):
        source = random.Random(4)
        for turn in range(300):
            width, depth, height = source.randint(1, 7), source.randint(1, 5), source.randint(1, 4)
            signs = "#" * source.randint(1, 9) + "."
            layers = [["".join(source.choices(signs, k=width)) for y in range(depth)] for z in range(height)]
            text = part_text("a", layers)
            self.check(expected_plates(text), text)


def winding_way():
    """Places of a part of 16 by 15 by 17, each beside the one before it and beside no other earlier one."""
    way = []
    for z in range(0, 17, 2):
        back = z % 4 == 2
        for y in (range(14, -1, -2) if back else range(0, 15, 2)):
            to_left = len(way) > 0 and way[-1][0] == 15
            way.extend((x, y, z) for x in (range(15, -1, -1) if to_left else range(16)))
            if y != (0 if back else 14):
                way.append((way[-1][0], y - 1 if back else y + 1, z))
        if z < 16:
            way.append((way[-1][0], way[-1][1], z + 1))
    return way


def cells_text(name, cells, width, depth, height):
    layers = [
        ["".join("#" if (x, y, z) in cells else "." for x in range(width)) for y in range(depth)]
        for z in range(height)
    ]
    return part_text(name, layers)


class Long(PlatesCase):
    def test_parts_of_16_by_16_by_18_places(self):
        block = full_part("a", 16, 16, 18, "#")
        self.check([], block)
        self.check([1], block + flat("b", "b"))
        self.check([-6], block[:-1])
        self.check([-8], full_part("a", 16, 16, 18, "b"))
        self.check([-8], full_part("a", 16, 16, 18, "s"))

    def test_nearly_100000_bytes(self):
        text = "".join(full_part(f"l{number:02d}", 16, 16, 18, "#") for number in range(20))
        text += flat("m", "bb") + flat("n", "bb") + flat("o", "b")
        self.assertLess(98000, len(text))
        self.assertLessEqual(len(text), 100000)
        self.check([20, 22], text)
        self.check([-6], text[:-1])
        self.check([-6], text + "p")
        self.check([-8], text.replace("#\n", ".\n", 16 * 18))
        self.check([-8], text + flat("o", "b"))

    def test_just_100000_bytes(self):
        block = [["#" * 16] * 16] * 18
        text = "".join(part_text(f"l{number:02d}", block, 10 if number < 14 else 1) for number in range(20))
        text += full_part("m", 16, 16, 6, "#") + flat("n", "b")
        self.assertEqual(100000, len(text))
        self.check([21], text)
        self.check([-6], text[:-2] + "a\n")
        self.check([-8], text[:-2] + ".\n")

    def test_100000_bytes_of_no_catalogue(self):
        for sign in ("\n", "b", "p", "1", "\0"):
            self.check([-6], sign * 100000)
        self.check([-6], "part a" + "1" * 99994)
        self.check([-6], "part a 1 1 1 " + "1" * 99987)

    def test_a_long_row_of_cells_that_winds(self):
        way = winding_way()
        self.assertEqual(len(way), len(set(way)))
        self.assertGreater(len(way), 1200)
        whole = cells_text("a", set(way), 16, 15, 17)
        self.check([], whole)
        self.check([1], whole + flat("b", "b"))
        for at in range(1, len(way) - 1, 97):
            text = cells_text("a", set(way) - {way[at]}, 16, 15, 17)
            self.assertEqual({4}, faults_of_catalogue(split_catalogue(text)))
            self.check([-8], text)

    def test_it_takes_no_long_time(self):
        text = "".join(full_part(f"l{number:02d}", 16, 16, 18, "#") for number in range(20))
        given = list(text.encode())
        start = time.process_time()
        self.assertEqual([], plates(given))
        self.assertLess(time.process_time() - start, 20)

    def test_too_long(self):
        # More than the interface lets be handed in; the calls' words name it all the same.
        self.check([-6], "p" * 1048576)
        self.check([-2], "p" * 1048577)
        self.check([-2], PLATE + "\n" * 1048577)
