"""Stage 14: the disk and the host's book."""

import unittest

from helper import COINS, JUNK, PAIR, Dice, check_order, error_of, number_error, refused_all, whole_choices
from settledplay.disk.book import MAX_BLOCK, Disk, each_fall, is_left_by, read_book, read_record, record_text, with_tick
from settledplay.play.keys import Setup, is_row

SETUP = Setup(COINS)
LATE = Setup(COINS, starters=(0,))
FAR = 10 ** 60 - 1
SETUPS = [(value, ("InvalidSetup",)) for value in JUNK if not isinstance(value, Setup)]
DISKS = [(value, ("InvalidDisk",)) for value in JUNK if not isinstance(value, Disk)]
BLOCKS = [(value, ("InvalidDisk",)) for value in JUNK if value not in ((), ("x", "y"))]
BLOCKS += [(value, ("InvalidDisk",)) for value in (["a"], ("a", None), ("a", "x" * 201), ("a", 1), ("a", ("b",)), "ab")]
TICKS = whole_choices(-10 ** 99)
JOINTS = [(value, ("InvalidRow",)) for value in JUNK if value != (1,)]
JOINTS += [(value, ("InvalidRow",)) for value in (((0,) * 5), (128,), (-2,), (True,), (0, None), [0], ((0,),), (0, "1"), (0, 10 ** 60))]


def torn(text):
    """All beginnings of a text but itself."""
    return [text[:many] for many in range(len(text))]


class DiskTest(unittest.TestCase):
    def test_properties(self):
        self.assertEqual(MAX_BLOCK, 200)
        disk = Disk(("a", "", "x" * 200, "a\nb"), 2)
        self.assertEqual((disk.blocks, disk.sure, disk.lasting, len(disk)), (("a", "", "x" * 200, "a\nb"), 2, ("a", ""), 4))
        self.assertEqual((Disk().blocks, Disk().sure, Disk().lasting, len(Disk())), ((), 0, (), 0))
        self.assertEqual(Disk(("a",)).sure, 0)
        with self.assertRaises(TypeError):
            list(disk)

    def test_equality(self):
        disk = Disk(("a", "b"), 1)
        self.assertTrue(disk == Disk(("a", "b"), 1) and not disk != Disk(("a", "b"), 1))
        for other in [*JUNK, Disk(("a", "b"), 0), Disk(("a", "b"), 2), Disk(("a",), 1), Disk(("a", "c"), 1)]:
            self.assertTrue(disk != other and not disk == other)

    def test_writing(self):
        disk = Disk(("a",), 1).written("b").written("")
        self.assertEqual((disk.blocks, disk.sure), (("a", "b", ""), 1))
        sure = disk.made_sure()
        self.assertEqual((sure.blocks, sure.sure, disk.sure), (("a", "b", ""), 3, 1))
        self.assertEqual(sure.made_sure(), sure)
        self.assertEqual(disk.written("x" * 200).blocks[-1], "x" * 200)
        for value in [value for value in JUNK if not isinstance(value, str)] + ["x" * 201, "~" * 3000, ("a",)]:
            self.assertEqual(error_of(disk.written, value), ("InvalidText",), value)

    def test_refused(self):
        sures = [(value, ("InvalidDisk",)) for value in (*JUNK, 2)]
        check_order(self, Disk, (("a",), 1), [BLOCKS, sures])
        self.assertEqual(error_of(Disk, (), 1), ("InvalidDisk",))
        refused_all(self, Disk, "InvalidDisk", [JUNK.index(()), JUNK.index(("x", "y"))])


class FallTest(unittest.TestCase):
    def test_each_place(self):
        disk = Disk(("one", "two", "three", "", "x"), 1)
        for many, signs, blocks in ((0, 0, ()), (0, 1, ("t",)), (0, 3, ("two",)), (1, 0, ("two",)), (1, 4, ("two", "thre")), (1, 5, ("two", "three")),
                                    (2, 0, ("two", "three")), (3, 0, ("two", "three", "")), (3, 1, ("two", "three", "", "x")),
                                    (4, 0, ("two", "three", "", "x"))):
            left = disk.fallen(many, signs)
            self.assertEqual((left.blocks, left.sure), (("one", *blocks), len(blocks) + 1), (many, signs))
        self.assertEqual(Disk(("a",), 1).fallen(0, 0), Disk(("a",), 1))
        self.assertEqual(Disk().fallen(0, 0), Disk())

    def test_refused(self):
        disk = Disk(("one", "two", "three", "", "x"), 1)
        wrong = [(value, number_error(value)) for value in (-1, 5, True, False, None, "0", 10 ** 60, (0,), [1])]
        more = [(value, number_error(value)) for value in (-1, 6, True, False, None, "0", 10 ** 60, (0,), [1])]
        check_order(self, disk.fallen, (1, 2), [wrong, more])
        for many, signs in ((0, 4), (2, 1), (3, 2), (4, 1), (4, -1)):
            self.assertEqual(error_of(disk.fallen, many, signs), number_error(signs))

    def test_all_falls(self):
        dice = Dice(141)
        for _ in range(200):
            blocks = tuple(dice.some("", "a", "b", "aa", "ab", "abc", "1:0,0;") for _ in range(dice.random.randint(0, 5)))
            disk = Disk(blocks, dice.random.randint(0, len(blocks)))
            unsure = blocks[disk.sure:]
            # Each fall, in the told sequence; those that leave what a former one left are left out.
            due = []
            for many in range(len(unsure) + 1):
                for signs in range(len(unsure[many]) + 1 if many < len(unsure) else 1):
                    left = disk.fallen(many, signs)
                    self.assertEqual((left.sure, left.lasting), (len(left), left.blocks))
                    due += [left] if left not in due else []
            found = list(each_fall(disk))
            self.assertEqual(found, due)
            if "" not in unsure:
                self.assertEqual(len(found), 1 + sum(map(len, unsure)))
            for left in found:
                self.assertIs(is_left_by(disk, left), True)
                self.assertEqual(list(each_fall(left)), [left])
            for _ in range(10):
                blocks = tuple(dice.some("", "a", "aa", "ab", *blocks, *blocks) for _ in range(dice.random.randint(0, len(disk) + 1)))
                other = Disk(blocks, dice.some(len(blocks), len(blocks), 0))
                self.assertIs(is_left_by(disk, other), other in found)

    def test_what_no_fall_leaves(self):
        disk = Disk(("one", "two", "three"), 1)
        for value in [*JUNK, disk, Disk(("one", "two"), 1), Disk(("one", "wo"), 2), Disk(("one", "two", ""), 3), Disk(("one", "three"), 2),
                      Disk(("on",), 1), Disk(("one", "t", "three"), 3), Disk(("one", "two", "three", ""), 4), Disk(("one", "twoo"), 2)]:
            self.assertIs(is_left_by(disk, value), False, value)
        self.assertIs(is_left_by(Disk(), Disk()), True)

    def test_refused_elsewhere(self):
        for value, error in DISKS:
            self.assertEqual(error_of(lambda disk: list(each_fall(disk)), value), error)
            self.assertEqual(error_of(is_left_by, value, Disk()), error)
            self.assertIsNone(error_of(each_fall, value))


class RecordTest(unittest.TestCase):
    def test_texts(self):
        for tick, joint, text in ((0, (0,), "0:0;"), (12, (0, 67), "12:0,67;"), (12, (0, -1), "12:0,-1;"), (10, (-1, -1, 127, 5), "10:-1,-1,127,5;"),
                                  (FAR, (64,), "9" * 60 + ":64;")):
            self.assertEqual((record_text(tick, joint), read_record(text)), (text, (tick, joint)))

    def test_no_beginning_of_a_record_is_one(self):
        dice = Dice(142)
        for _ in range(200):
            tick = dice.some(0, 1, 9, 10, 123, FAR)
            joint = tuple(dice.random.randint(-1, 127) for _ in range(dice.random.randint(1, 4)))
            text = record_text(tick, joint)
            self.assertEqual(read_record(text), (tick, joint))
            for part in torn(text):
                self.assertIsNone(read_record(part))

    def test_no_records(self):
        for value in [*JUNK, "1:2,67", ":0;", "1:;", "1;", "1:0,;", "1:,0;", "1:0,,1;", "01:0;", "00:0;", "1:00;", "1:01;", "1:0,02;", "1:-0;", "1:0,-0;",
                      "1:-2;", "1:-01;", "1:--1;", "1:128;", "1:+1;", "+1:0;", "-1:0;", "1:0;;", "1:0; ", " 1:0;", "1: 0;", "1:0 ;", "1:0,0,0,0,0;",
                      "1::0;", "1:0:0;", "a:0;", "1:a;", "1_0:0;", "1:1_0;", "1:0;1:0;", "1:0;\n", "\n1:0;", "1\n:0;", "1" * 61 + ":0;", "1" * 4500 + ":0;",
                      "1:" + "1" * 4500 + ";", "\u0661:0;", "1:\u0661;", "\xb2:0;", b"1:0;", "1.0:0;", "1:0.0;"]:
            self.assertIsNone(read_record(value), value)

    def test_refused(self):
        check_order(self, record_text, (1, (0, 1)), [TICKS, JOINTS])
        check_order(self, with_tick, (Disk(), 1, (0, 1)), [DISKS, TICKS, JOINTS])

    def test_with_tick(self):
        disk = with_tick(Disk(("a",), 1), 3, (0, -1))
        self.assertEqual(disk, Disk(("a", "3:0,-1;"), 1))


class BookTest(unittest.TestCase):
    def test_passed_by(self):
        good = ("0:0,3;", "1:2,67;", "2:0,-1;")
        row = ((0, 3), (2, 67), (0, -1))
        self.assertEqual(read_book(SETUP, Disk(good)), row)
        self.assertEqual(read_book(SETUP, Disk(good, 1)), row)
        for at in range(4):
            for block in ("", "x", "0:0,3", "1:0,0,0;", "1:-1,0;", "7:0,0;", "1:2,67", "2:0,-1;2:0,-1;", *good[:at]):
                self.assertEqual(read_book(SETUP, Disk((*good[:at], block, *good[at:]))), row, (at, block))
        self.assertEqual(read_book(SETUP, Disk((good[0], *good))), row)
        self.assertEqual(read_book(SETUP, Disk(good[1:])), ())
        self.assertEqual(read_book(SETUP, Disk((good[0], good[2]))), row[:1])
        self.assertEqual(read_book(SETUP, Disk(("0:0;", "0:0,0,0;", "0:-1,5;", "0:5,-1;", "1:5,0;"))), ((5, -1),))
        self.assertEqual(read_book(LATE, Disk(("0:5,-1;", "1:5,0;", "2:5,-1;", "3:5,0;", "3:5,-1;"))), ((5, -1), (5, 0), (5, -1), (5, -1)))

    def test_reading_is_what_is_told(self):
        dice = Dice(143)
        for _ in range(150):
            setup = dice.setup(dice.some(COINS, dice.game()))
            row = dice.match_row(setup, dice.random.randint(0, 8))
            blocks = []
            for tick, joint in enumerate(row):
                while dice.random.random() < 0.4:
                    text = record_text(dice.some(tick, tick, tick + 1, max(0, tick - 1)), tuple(dice.some(-1, 0, 64) for _ in joint))
                    blocks.append(dice.some(text, text[:-1], text[1:], "", "?"))
                blocks.append(record_text(tick, joint))
            due = ()
            for block in blocks:
                told = read_record(block)
                if told and told[0] == len(due) and is_row(setup, (*due, told[1])):
                    due = (*due, told[1])
            self.assertEqual(read_book(setup, Disk(tuple(blocks))), due)

    def test_falls(self):
        dice = Dice(144)
        torn_ones = 0
        for _ in range(80):
            setup = dice.setup(dice.some(COINS, dice.game()))
            # Whoever writes goes on behind a fall with words of a row that begins with what was read.
            disk, row, sure = Disk(), (), ()
            for _ in range(40):
                what = dice.random.random()
                if what < 0.6:
                    joint = next(joint for joint in iter(lambda: dice.match_row(setup, len(row) + 1)[-1], None) if is_row(setup, (*row, joint)))
                    disk, row = with_tick(disk, len(row), joint), (*row, joint)
                elif what < 0.75:
                    disk, sure = disk.made_sure(), row
                else:
                    left = dice.some(*each_fall(disk))
                    again = read_book(setup, left)
                    self.assertEqual((again, again[:len(sure)]), (row[:len(again)], sure))
                    self.assertIs(is_left_by(disk, left), True)
                    torn_ones += left.blocks[-1:] != disk.blocks[len(left) - 1:len(left)]
                    disk, row, sure = left, again, again
                self.assertEqual(read_book(setup, disk), row)
                self.assertEqual(read_book(setup, Disk(disk.lasting)), sure)
        self.assertGreater(torn_ones, 50)

    def test_mending_again(self):
        disk = Disk(("0:0,3;", "1:2,6", "1:2,67;"), 3)
        self.assertEqual((read_book(PAIR, disk), read_book(PAIR, disk), disk.blocks), (((0, 3), (2, 67)),) * 2 + (("0:0,3;", "1:2,6", "1:2,67;"),))

    def test_refused(self):
        check_order(self, read_book, (SETUP, Disk()), [SETUPS, DISKS])


if __name__ == "__main__":
    unittest.main()
