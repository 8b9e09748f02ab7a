"""Stage 8: steps that are done again, but only what changed."""

import unittest

from helper import COINS, JUNK, ROW, Dice, check_order, error_of
from settledplay.play.again import again, again_row, changed_places, unlike_places
from settledplay.play.step import plain_worlds, step
from settledplay.rules.forms import Game
from settledplay.rules.runs import put_on, run, value_at
from settledplay.world.worlds import World, first_world

FIRST = first_world(COINS)
STEP = step(COINS, FIRST, (2, 1))
GAMES = [(value, ("InvalidGame",)) for value in JUNK if value is not COINS]
WORLDS = [(value, ("InvalidWorld",)) for value in JUNK if not isinstance(value, World)]
WORLDS += [(World(0, 9, 0, ((1, "elf", (1,)),)), ("InvalidWorld",)), (World(0, 9, 0, ((1, "coin", (1, 2)),)), ("InvalidWorld",))]
JOINTS = [(value, ("InvalidWord",)) for value in [*JUNK, (0,), (0, 128), (-2, 0), (True, 0), [0, 0], (0, 0, 0)]]
ROWS = [(value, ("InvalidRow",)) for value in [*JUNK, ((0,),), (0, 0), [(0, 0)], ((0, 128),)] if value != ()]
RECORD = STEP[1][0]
OTHER = (0, 0, (), (), (), (), 0, ())
WRONG_RECORD_FORMS = [*JUNK, list(RECORD), RECORD[:7], (*RECORD, 0), (True, *RECORD[1:]), (-1, *RECORD[1:]), (0, 10 ** 60, *RECORD[2:]),
                      (0, 0, RECORD[2][::-1], *RECORD[3:]), (0, 0, [], *RECORD[3:]), (*RECORD[:7], ((100, 0),)), (*RECORD[:6], True, ())]
WRONG_RECORDS = [(value, ("InvalidRecord",)) for value in JUNK if value != ()]
WRONG_RECORDS += [((value,), ("InvalidRecord",)) for value in WRONG_RECORD_FORMS]
WRONG_RECORDS += [(value, ("InvalidRecord",)) for value in (list(STEP[1]), (RECORD, RECORD), (*STEP[1], OTHER), (OTHER, RECORD))]


def keys_of(records):
    return {record[:3] for record in records}


def places_read(record):
    return {place for place, _ in record[2]}


class Case:
    """A game, a world of it with a joint word, and another one that is near, or of other ids."""

    def __init__(self, dice, far=False):
        self.game = dice.game()
        self.one, self.joint = self.world(dice), dice.joint(self.game)
        self.other, self.further = dice.near(self.one, self.joint)
        if far:
            self.other, self.further = self.world(dice), dice.joint(self.game)
        self.records = step(self.game, self.one, self.joint)[1]
        self.after = step(self.game, self.other, self.further)

    def world(self, dice):
        """A world of which some steps can be told with sixty digits."""
        while True:
            world = dice.world(self.game)
            if max(world.tick, world.next_id) < 10 ** 59:
                return world


class AgainTest(unittest.TestCase):
    def check(self, game, records, world, joint):
        """The step that is done again is the plain one, and just the runs without a told record are done anew."""
        after = step(game, world, joint)
        found = again(game, records, world, joint)
        self.assertEqual(found[:3], after)
        told = keys_of(records)
        self.assertEqual(found[3], tuple(record[:2] for record in after[1] if record[:3] not in told))
        return len(found[3]), len(after[1])

    def test_another_world_or_joint_word(self):
        dice = Dice(81)
        kept = anew = 0
        for _ in range(250):
            case = Case(dice)
            many, runs = self.check(case.game, case.records, case.other, case.further)
            kept, anew = kept + runs - many, anew + many
        self.assertGreater(kept, 400)
        self.assertGreater(anew, 200)

    def test_records_of_far_steps(self):
        dice = Dice(82)
        for _ in range(150):
            case = Case(dice, far=True)
            self.check(case.game, case.records, case.other, case.further)

    def test_records_of_several_steps(self):
        dice = Dice(83)
        for _ in range(120):
            case = Case(dice)
            told = {}
            for world, joint in ((case.one, case.joint), (case.other, case.further), dice.near(case.one, case.joint), (case.after[0], case.joint)):
                for record in step(case.game, world, joint)[1]:
                    if record[:2] not in told or dice.random.random() < 0.5:
                        told[record[:2]] = record
            records = list(told.values())
            dice.random.shuffle(records)
            for many in (len(records), len(records) // 2):
                self.check(case.game, tuple(records[:many]), case.other, case.further)
                self.check(case.game, tuple(records[:many]), case.one, case.joint)

    def test_own_records_and_none(self):
        dice = Dice(84)
        for _ in range(120):
            case = Case(dice)
            after = step(case.game, case.one, case.joint)
            self.assertEqual(again(case.game, case.records, case.one, case.joint), (*after, ()))
            self.assertEqual(again(case.game, (), case.one, case.joint), (*after, tuple(record[:2] for record in after[1])))

    def test_the_sequence_of_the_records_has_no_effect(self):
        self.assertEqual(again(COINS, STEP[1][::-1], FIRST, (2, 0)), again(COINS, STEP[1], FIRST, (2, 0)))

    def test_records_of_runs_that_do_not_come(self):
        drop = Game(COINS.kinds, (("for", "coin", (("drop", ""),)), ("for", "coin", (("tell", 1, ("own", "x")),))), (), arena=(9, 9))
        world = World(0, 9, 0, ((3, "coin", (1, 1, 0, 0)),))
        record = run(drop, world, (0, 0), 1, 3)
        self.assertEqual(again(drop, (record,), world, (0, 0))[1:], (step(drop, world, (0, 0))[1], (), ((0, 3),)))
        # An entry, an id and a kind that are not there.
        for record in ((9, 3, (), (), (), (), 0, ((1, 1),)), (0, 8, (), (), (), (), 0, ((1, 1),)), (0, 10 ** 60 - 1, (), (), (), (), 0, ())):
            self.assertEqual(again(drop, (record,), world, (0, 0))[2:], ((), ((0, 3),)))

    def test_a_thing_of_another_kind_has_no_record_of_the_elder_one(self):
        kinds = (("ant", (("n", 0),), None), ("bee", (("n", 0),), None))
        tell = Game(kinds, (("for", "ant", (("tell", 1, 5),)), ("for", "bee", (("tell", 2, 5),))), (), arena=(9, 9))
        one, other = World(0, 9, 0, ((3, "ant", (1,)),)), World(0, 9, 0, ((3, "bee", (1,)),))
        self.assertEqual(again(tell, step(tell, one, (0, 0))[1], other, (0, 0))[2:], (((2, 5),), ((1, 3),)))

    def test_what_is_heard_alone_counts(self):
        for one, other in (((2, 1), (66, 65)), ((0, 0), (-1, 64)), ((63, -1), (127, 0))):
            self.assertEqual(again(COINS, step(COINS, FIRST, one)[1], FIRST, other)[3], ())

    def test_refused(self):
        check_order(self, again, (COINS, STEP[1], FIRST, (2, 1)), (GAMES, WRONG_RECORDS, WORLDS, JOINTS))
        self.assertIsNone(error_of(again, COINS, (), FIRST, (-1, 127)))
        self.assertIsNone(error_of(again, COINS, (RECORD, (0, 1, *OTHER[2:]), (1, 0, *OTHER[2:])), FIRST, (2, 1)))


class HowFarTest(unittest.TestCase):
    """[8.4] and [8.5]."""

    def test_nothing_anew(self):
        dice = Dice(85)
        seen = [0, 0]
        for _ in range(700):
            case = Case(dice)
            turns = [record[:2] for record in case.after[1]] == [record[:2] for record in case.records]
            alike = [thing[:2] for thing in case.one.things] == [thing[:2] for thing in case.other.things]
            if not turns or not alike or case.one.next_id != case.other.next_id:
                continue
            unlike = set(unlike_places(case.game, case.one, case.joint, case.other, case.further))
            given, does_hold = set(), True
            for record in case.records:
                does_hold = does_hold and places_read(record) & unlike <= given
                given |= {("field", thing, field) for thing, field, _ in record[3]}
            found = again(case.game, case.records, case.other, case.further)
            self.assertEqual(found[3] == (), does_hold)
            seen[does_hold] += 1
            if does_hold:
                after = step(case.game, case.one, case.joint)
                self.assertEqual(found[1:3], after[1:])
                fields = {place for place in unlike if place[0] == "field"} - given
                most = fields | {place for place in unlike if place[0] in ("luck", "tick")}
                self.assertLessEqual(set(unlike_places(case.game, after[0], case.joint, found[0], case.joint)), most)
        self.assertGreater(min(seen), 40)

    def test_only_what_reads_a_change_is_done_anew(self):
        dice = Dice(86)
        seen = 0
        for _ in range(500):
            case = Case(dice)
            told = {record[:2]: record for record in case.records}
            found = again(case.game, case.records, case.other, case.further)
            unlike = set(unlike_places(case.game, case.one, case.joint, case.other, case.further))
            # What runs of the elder step changed that have no turn now.
            turns = [record[:2] for record in found[1]]
            for pair in set(told) - set(turns):
                unlike |= set(changed_places(case.game, told[pair]))
            for record in found[1]:
                elder = told.get(record[:2])
                if record[:2] in found[3]:
                    if elder:
                        self.assertTrue(places_read(elder) & unlike, (record, elder))
                        seen += 1
                    if elder is None or elder[3:] != record[3:]:
                        unlike |= set(changed_places(case.game, record)) | set(changed_places(case.game, elder) if elder else ())
                else:
                    self.assertEqual(record, elder)
        self.assertGreater(seen, 100)

    def test_what_does_just_what_it_did(self):
        # The hero reads an unlike key bit and sets what it set before: nothing behind it is done anew.
        self.assertEqual(again(COINS, STEP[1], FIRST, (6, 1))[3], ((0, 0),))


class AgainRowTest(unittest.TestCase):
    def check(self, game, rows, world, row):
        worlds, records, effects, many = again_row(game, rows, world, row)
        now, count = world, 0
        self.assertEqual({len(worlds), len(records), len(effects)}, {len(row)})
        for at, joint in enumerate(row):
            after = step(game, now, joint)
            self.assertEqual((worlds[at], records[at], effects[at]), after)
            told = keys_of(rows[at]) if at < len(rows) else set()
            count += len([record for record in after[1] if record[:3] not in told])
            now = after[0]
        self.assertEqual(many, count)
        return worlds

    def test_rows_of_steps(self):
        dice = Dice(87)
        for _ in range(60):
            case = Case(dice)
            row = tuple(dice.joint(case.game) for _ in range(dice.random.randint(0, 4)))
            rows = again_row(case.game, (), case.one, row)[1]
            self.assertEqual(again_row(case.game, rows, case.one, row)[3], 0)
            other = tuple(dice.some(joint, dice.joint(case.game)) for joint in row)
            self.check(case.game, rows, case.other, other)
            # More and fewer steps than rows, and rows of none.
            self.check(case.game, rows, case.other, other + (case.further,))
            self.check(case.game, rows, case.other, other[:-1])
            self.check(case.game, ((),) * len(rows), case.one, row)
            self.check(case.game, rows[1:], case.one, row)

    def test_plain_worlds(self):
        self.assertEqual(self.check(COINS, (STEP[1],), FIRST, ROW), tuple(plain_worlds(COINS, ROW))[1:])
        self.assertEqual(again_row(COINS, (), FIRST, ()), ((), (), (), 0))
        self.assertEqual(again_row(COINS, (STEP[1], ()), FIRST, ()), ((), (), (), 0))
        self.assertEqual(again_row(COINS, (), FIRST, ((2, 1),)), ((STEP[0],), (STEP[1],), (STEP[2],), 6))

    def test_refused(self):
        wrong = [(value, ("InvalidRecord",)) for value in JUNK if value not in ((), ((),))]
        wrong += [((value,), ("InvalidRecord",)) for value, _ in WRONG_RECORDS]
        wrong += [([STEP[1]], ("InvalidRecord",)), (STEP[1], ("InvalidRecord",)), (((), (), (RECORD, RECORD)), ("InvalidRecord",))]
        check_order(self, again_row, (COINS, (STEP[1], ()), FIRST, ROW), (GAMES, wrong, WORLDS, ROWS))


class PlacesTest(unittest.TestCase):
    def test_unlike_places(self):
        dice = Dice(88)
        names = ("x", "y", "dx", "dy", "n", "seat")
        for _ in range(150):
            case = Case(dice, far=dice.random.random() < 0.5)
            places = [("field", thing, name) for thing in {*case.one, *case.other, 777} for name in names]
            places += [("kind", thing) for thing in {*case.one, *case.other, 777}] + [("ids", kind) for kind in ("ant", "bee", "cat", "elf")]
            places += [("key", seat) for seat in range(-2, 6)] + [("many",), ("next",), ("luck",), ("tick",)]
            unlike = [place for place in places if value_at(case.game, case.one, case.joint, place)
                      != value_at(case.game, case.other, case.further, place)]
            self.assertEqual(unlike_places(case.game, case.one, case.joint, case.other, case.further), tuple(sorted(unlike)))
            self.assertEqual(unlike_places(case.game, case.one, case.joint, case.one, case.joint), ())

    def test_another_kind(self):
        one, other = World(0, 9, 0, ((3, "hero", (1, 2, 0, 0, 1)),)), World(0, 9, 0, ((3, "coin", (1, 3, 0, 0)),))
        self.assertEqual(unlike_places(COINS, one, (0, 64), other, (-1, 0)), (
            ("field", 3, "seat"), ("field", 3, "y"), ("ids", "coin"), ("ids", "hero"), ("kind", 3)))
        self.assertEqual(unlike_places(COINS, one, (0, 1), World(7, 8, 0, ()), (2, 1)), (
            ("field", 3, "dx"), ("field", 3, "dy"), ("field", 3, "seat"), ("field", 3, "x"), ("field", 3, "y"), ("ids", "hero"), ("key", 0),
            ("kind", 3), ("many",), ("next",), ("tick",)))

    def test_unlike_places_refused(self):
        check_order(self, unlike_places, (COINS, FIRST, (2, 1), STEP[0], (2, 0)), (GAMES, WORLDS, JOINTS, WORLDS, JOINTS))

    def test_changed_places(self):
        sets = ((1, "dx", 5), (1, "x", 0), (4, "zz", 1))
        self.assertEqual(changed_places(COINS, (0, 1, (), sets, (), (), 0, ())), (("field", 1, "dx"), ("field", 1, "x"), ("field", 4, "zz")))
        coin = (("field", 5, "dx"), ("field", 5, "dy"), ("field", 5, "x"), ("field", 5, "y"), ("ids", "coin"), ("kind", 5), ("many",))
        self.assertEqual(changed_places(COINS, (0, 1, (), (), (), ((5, "coin"),), 0, ())), coin)
        self.assertEqual(changed_places(COINS, (0, 1, (), (), ((5, "coin", (1, 2, 3, 4)),), (), 1, ())), (*coin, ("next",)))
        self.assertEqual(changed_places(COINS, (0, 1, ((("many",), 3), (("next",), 5)), (), (), (), 2, ((1, 1),))), (("next",),))
        self.assertEqual(changed_places(COINS, (0, 1, (), sets[:1], ((5, "coin", (1, 2, 3, 4)),), ((2, "coin"), (3, "hero")), 1, ())), tuple(sorted(
            [("field", 1, "dx"), *coin, ("next",), ("ids", "hero"), ("kind", 2), ("kind", 3), ("field", 3, "seat")]
            + [("field", thing, name) for thing in (2, 3) for name in ("x", "y", "dx", "dy")])))
        self.assertEqual(changed_places(COINS, OTHER), ())

    def test_all_that_changes_is_told(self):
        dice = Dice(89)
        seen = 0
        for _ in range(150):
            case = Case(dice)
            now = case.one
            for record in case.records:
                after = put_on(case.game, now, record)
                places = unlike_places(case.game, now, case.joint, after, case.joint)
                self.assertLessEqual(set(places), set(changed_places(case.game, record)))
                seen += len(places)
                now = after
        self.assertGreater(seen, 300)

    def test_changed_places_refused(self):
        check_order(self, changed_places, (COINS, RECORD), (GAMES, [(value, ("InvalidRecord",)) for value in WRONG_RECORD_FORMS]))

    def test_what_is_not_true(self):
        # A run whose reads changed does just what it did.
        self.assertEqual(again(COINS, STEP[1], FIRST, (6, 1))[1][0][3:], STEP[1][0][3:])
        # Worlds behind are equal, but runs are done anew; they are of things that are not unlike.
        found = again(COINS, STEP[1], FIRST, (6, 1))
        self.assertEqual((found[0], len(found[3])), (STEP[0], 1))


if __name__ == "__main__":
    unittest.main()
