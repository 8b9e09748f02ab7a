"""Stage 17: matches."""

import copy
import unittest

from helper import COINS, JUNK, PAIR, Dice, NaiveMatch, check_order, error_of, number_error, refused_all
from settledplay.disk.book import Disk, each_fall, read_book, with_tick
from settledplay.match.match import MAX_ACTS, Standing, each_standing, first_fault, is_act, is_sound, run
from settledplay.net.bag import Bag, judged_handing
from settledplay.play.keys import Setup, is_row
from settledplay.play.step import next_world, plain, plain_worlds
from settledplay.play.timeline import Timeline
from settledplay.rules.forms import Game
from settledplay.seat.host import Host
from settledplay.seat.player import Player
from settledplay.world.worlds import first_world

FOUR = Game(COINS.kinds, COINS.entries, COINS.start, arena=(12, 6), seats=4)
ALONE = Game(COINS.kinds, COINS.entries, COINS.start, arena=(12, 6), seats=1)
LATE = Setup(COINS, window=3, delay=1, patience=2, silence=3, starters=(0,), lookers=1)
SETUPS = [(value, ("InvalidSetup",)) for value in JUNK if not isinstance(value, Setup)]
STANDINGS = [(value, ("InvalidStanding",)) for value in JUNK if not isinstance(value, Standing)]
# What is no act of LATE, which has the places 0 to 2.
NO_ACTS = [*JUNK, ("beat", 3, 0), ("beat", -1, 0), ("beat", True, 0), ("beat", None, 0), ("beat", 0, 64), ("beat", 0, -1), ("beat", 0, True), ("beat", 0),
           ("beat", 0, 0, 0), ["beat", 0, 0], ("tell", 0), ["tell"], "tell", ("hand",), ("hand", -1), ("hand", True), ("hand", None), ("hand", 0, 0),
           ("hand", 10 ** 60), ("fall",), ("fall", 0), ("fall", 0, 0, 0), ("fall", -1, 0), ("fall", 0, -1), ("fall", 1001, 0), ("fall", 0, 1001),
           ("fall", True, 0), ("fall", 0, True), ("fall", None, 0), ("come",), ("come", 0), ("come", 3), ("come", True), ("come", None), ("come", 1, 1),
           ("go",), ("go", 0), ("go", 3), ("go", -1), ("go", True), ("go", "1"), ("went", 1), (("beat",), 0, 0), ("Beat", 0, 0), (1, 0, 0), ([], 0)]
IS_ACT = [("beat", 0, 0), ("beat", 2, 63), ("tell",), ("hand", 0), ("hand", 10 ** 60 - 1), ("fall", 0, 0), ("fall", 1000, 1000), ("come", 1),
          ("come", 2), ("go", 1), ("go", 2)]


def after(standing, *acts):
    """The standing behind acts."""
    for act in acts:
        standing = standing.after(act)
    return standing


def parts(standing):
    """All properties, with those of the machines that equality can pass over."""
    return (standing.setup, standing.host, standing.disk, standing.players, standing.bag, standing.row)


def forged(standing, **parts):
    """A standing that no acts make."""
    other = copy.copy(standing)
    for name, value in parts.items():
        setattr(other, name, value)
    return other


class ActsTest(unittest.TestCase):
    def test_forms(self):
        self.assertEqual(MAX_ACTS, 600)
        for value in IS_ACT:
            self.assertIs(is_act(LATE, value), True, value)
        for value in NO_ACTS:
            self.assertIs(is_act(LATE, value), False, value)
        self.assertIs(is_act(Setup(ALONE), ("come", 1)), False)
        self.assertIs(is_act(Setup(FOUR, lookers=2), ("come", 5)), True)
        check_order(self, lambda setup: is_act(setup, ("tell",)), (PAIR,), [SETUPS])

    def test_no_acts(self):
        standing = after(Standing(LATE), ("come", 1))
        for value in [*NO_ACTS, ("hand", 1), ("hand", 10 ** 60 - 1)]:
            self.assertEqual(error_of(standing.after, value), ("InvalidAct",), value)
        self.assertIsNone(error_of(standing.after, ("hand", 0)))

    def test_the_beginning(self):
        standing = Standing(LATE)
        self.assertEqual(parts(standing), (LATE, Host(LATE), Disk(), (Player(LATE, 1), Player(LATE, 2)), Bag(), ()))
        self.assertEqual(str(standing), "standing of 3 machines: 0 settled, 0 letters")
        self.assertEqual(parts(Standing(Setup(ALONE)))[3], ())
        check_order(self, Standing, (PAIR,), [SETUPS])
        with self.assertRaises(TypeError):
            list(standing)

    def test_beats_of_the_host(self):
        standing = after(Standing(LATE), ("beat", 0, 2))
        self.assertEqual(parts(standing)[1:3], (Host(LATE).beat(2), Disk(("0:2,-1;", "1:2,-1;"))))
        more = after(standing, ("beat", 0, 3))
        self.assertEqual((more.disk, more.row, len(more.bag)), (with_tick(standing.disk, 2, (3, -1)), (), 0))
        # One that closes nothing writes nothing.
        self.assertEqual(after(Standing(PAIR), ("beat", 0, 2)).disk, Disk())

    def test_tells(self):
        standing = after(Standing(PAIR), ("beat", 0, 2), ("beat", 0, 2), ("tell",))
        self.assertEqual((standing.row, standing.disk), (((2, 64),), Disk(("0:2,64;",), 1)))
        self.assertEqual(standing.bag.letters, (("rows", 1, 0, ((2, 64),)),))
        self.assertEqual(after(standing, ("tell",)).bag.letters, standing.bag.letters * 2)
        self.assertEqual(str(standing), "standing of 2 machines: 1 settled, 1 letters")

    def test_other_machines(self):
        standing = after(Standing(PAIR), ("beat", 1, 3))
        self.assertEqual((standing.players[0], standing.bag.letters), (Player(PAIR, 1).beat(3), (Player(PAIR, 1).beat(3).letter(),)))
        full = after(standing, ("beat", 1, 3), ("beat", 1, 3), ("beat", 1, 3))
        self.assertEqual((len(full.bag), full.bag.letters[3]), (4, full.bag.letters[2]))
        # Who is away or gone does nothing and sends nothing.
        self.assertEqual(after(Standing(LATE), ("beat", 1, 3)), Standing(LATE))

    def test_coming_and_going(self):
        standing = after(Standing(LATE), ("come", 1))
        self.assertEqual((standing.players[0].state, standing.bag.letters), ("coming", (("word", 1, "come"),)))
        self.assertEqual(after(standing, ("come", 1)), standing)
        self.assertEqual(after(standing, ("beat", 1, 9)).bag.letters, (("word", 1, "come"),) * 2)
        gone = after(standing, ("go", 1))
        self.assertEqual((gone.players[0].state, gone.bag), ("gone", standing.bag))
        for act in (("go", 1), ("come", 1), ("beat", 1, 0)):
            self.assertEqual(after(gone, act), gone)
        self.assertEqual(after(Standing(LATE), ("go", 1)), Standing(LATE))
        self.assertEqual(after(Standing(PAIR), ("come", 1)), Standing(PAIR))
        went = after(Standing(PAIR), ("go", 1))
        self.assertEqual((went.players[0].state, went.bag.letters), ("gone", (("word", 1, "go"),)))
        self.assertEqual(after(went, ("go", 1)), went)

    def test_a_whole_way_in(self):
        standing = after(Standing(LATE), ("beat", 0, 2), ("tell",), ("come", 2), ("come", 1), ("hand", 1), ("hand", 0), ("tell",))
        self.assertEqual([letter[:2] for letter in standing.bag.letters], [("word", 2), ("word", 1), ("piece", 1), ("piece", 2)])
        there = after(standing, ("hand", 3), ("hand", 2))
        self.assertEqual([player.state for player in there.players], ["there", "there"])
        self.assertEqual(there.line(1), Timeline(LATE, 1, plain(COINS, ((2, -1),) * 2)))
        beat = after(there, ("beat", 1, 5), ("beat", 2, 5), ("hand", 4), ("hand", 5), ("beat", 0, 1), ("tell",), ("hand", 6), ("hand", 7))
        self.assertEqual(beat.row[2:], ((1, 5),))
        self.assertEqual([beat.line(place).settled for place in range(3)], [3, 3, 3])
        self.assertIs(is_sound(beat), True)

    def test_handing(self):
        standing = after(Standing(PAIR), ("beat", 1, 3), ("beat", 0, 2), ("tell",))
        self.assertEqual(after(standing, ("hand", 0)).host, standing.host.heard(standing.bag.letter(0)))
        self.assertEqual(after(standing, ("hand", 1)).players, (standing.players[0].heard(standing.bag.letter(1)),))
        for number in (0, 1):
            once = after(standing, ("hand", number))
            self.assertEqual((once.bag, after(once, ("hand", number))), (standing.bag, once))

    def test_falls(self):
        setup = Setup(COINS, window=3, delay=1, patience=2, silence=3, starters=(0,))
        standing = after(Standing(setup), ("beat", 0, 2), ("tell",), ("beat", 0, 3), ("beat", 0, 4))
        self.assertEqual((standing.disk.blocks, standing.disk.sure), (("0:2,-1;", "1:2,-1;", "2:3,-1;", "3:4,-1;"), 2))
        closed = standing.host.closed
        for many, signs, blocks, ticks in ((0, 0, 2, 2), (0, 3, 3, 2), (0, 7, 3, 3), (0, 1000, 3, 3), (1, 0, 3, 3), (1, 6, 4, 3), (1, 1000, 4, 4), (2, 0, 4, 4),
                                           (2, 9, 4, 4), (3, 0, 4, 4), (1000, 1000, 4, 4)):
            fallen = after(standing, ("fall", many, signs))
            self.assertEqual((len(fallen.disk), fallen.disk.sure), (blocks, blocks))
            self.assertEqual((fallen.row, fallen.host), (closed[:ticks], Host.of_row(setup, closed[:ticks])))
            self.assertEqual((fallen.players, fallen.bag), (standing.players, standing.bag))
            self.assertIs(is_sound(fallen), True)
            on = after(fallen, ("beat", 0, 9), ("tell",))
            self.assertEqual(on.row[:ticks], closed[:ticks])
            self.assertEqual(read_book(setup, on.disk), on.row)
        self.assertEqual(after(Standing(setup), ("fall", 5, 5)), Standing(setup))

    def test_places(self):
        standing = after(Standing(LATE), ("beat", 0, 2), ("tell",))
        self.assertEqual([standing.line(place) for place in range(3)], [standing.host.timeline, None, None])
        self.assertEqual((standing.view(0), standing.ground(0)), (standing.host.timeline.shown_world, plain(COINS, ((2, -1),) * 2)))
        for call in (standing.view, standing.ground):
            self.assertEqual([error_of(call, place) for place in (1, 2)], [("Refused", repr(("away",)))] * 2)
        for call in (standing.line, standing.view, standing.ground):
            for value in [*JUNK, 3, -1, True]:
                self.assertEqual(error_of(call, value), number_error(value))
        pair = after(Standing(PAIR), ("beat", 1, 3))
        self.assertEqual((pair.line(1), pair.view(1), pair.ground(1)), (pair.players[0].timeline, next_world(COINS, first_world(COINS), (0, 3)), first_world(COINS)))

    def test_equality(self):
        base = after(Standing(PAIR), ("beat", 0, 2), ("beat", 1, 3))
        self.assertTrue(base == after(Standing(Setup(COINS, window=3, delay=1, patience=2, silence=3)), ("beat", 1, 3), ("beat", 0, 2)))
        for other in [*JUNK, after(Standing(PAIR), ("beat", 1, 3)), after(base, ("beat", 0, 2)), after(base, ("tell",)), after(base, ("beat", 1, 3)),
                      after(base, ("hand", 0)), Standing(Setup(COINS)), forged(base, disk=Disk(("x",), 1)), forged(base, bag=Bag())]:
            self.assertTrue(base != other and not base == other)
        self.assertTrue(Standing(PAIR) in JUNK)


class SchedulesTest(unittest.TestCase):
    def test_lengths(self):
        acts = (("tell",),) * 601
        self.assertEqual(len(run(Setup(ALONE), acts[:600]).bag), 0)
        self.assertEqual(error_of(run, PAIR, acts), ("TooMany", "600"))
        self.assertEqual(error_of(lambda: list(each_standing(PAIR, acts))), ("TooMany", "600"))
        self.assertEqual(run(PAIR, ()), Standing(PAIR))
        # The number of acts is asked ahead of their letters, the form of all acts ahead of their number.
        self.assertEqual(error_of(run, PAIR, (("hand", 0), *acts)), ("TooMany", "600"))
        self.assertEqual(error_of(run, PAIR, (*acts, ("tell", 1))), ("InvalidAct",))

    def test_refused(self):
        schedules = [(value, ("InvalidAct",)) for value in JUNK if value != ()]
        schedules += [((("tell",), value), ("InvalidAct",)) for value in NO_ACTS] + [([("tell",)], ("InvalidAct",)), (("tell",), ("InvalidAct",))]
        schedules += [((("hand", 0),), ("InvalidAct",)), ((("come", 1), ("hand", 1)), ("InvalidAct",))]
        all_of = lambda setup, acts: list(each_standing(setup, acts))
        for function in (run, all_of):
            check_order(self, function, (LATE, (("come", 1), ("hand", 0))), [SETUPS, schedules])

    def test_errors_of_the_generator(self):
        self.assertIsNone(error_of(each_standing, None, None))
        found = []

        def go():
            for standing in each_standing(LATE, (("come", 1), ("hand", 0), ("hand", 1), ("tell",))):
                found.append(standing)

        self.assertEqual(error_of(go), ("InvalidAct",))
        self.assertEqual(found, [run(LATE, (("come", 1), ("hand", 0))[:many]) for many in range(3)])


class FaultsTest(unittest.TestCase):
    """Standings that no acts make: each statement is looked at."""

    def setUp(self):
        acts = (("beat", 1, 3), ("beat", 0, 2), ("hand", 0), ("beat", 0, 2), ("tell",), ("beat", 1, 1), ("hand", 1), ("beat", 1, 5))
        self.standing = run(PAIR, acts)
        self.assertEqual((self.standing.row, self.standing.line(1).settled), (((2, 3), (2, 3)), 2))

    def with_line(self, line):
        """A standing with another timeline of the place 1."""
        return forged(self.standing, players=(forged(self.standing.players[0], timeline=line),))

    def test_no_fault(self):
        self.assertIsNone(first_fault(self.standing))
        self.assertIs(is_sound(self.standing), True)
        for function in (first_fault, is_sound):
            check_order(self, function, (self.standing,), [STANDINGS])

    def check(self, standing, fault):
        self.assertEqual((first_fault(standing), is_sound(standing)), (fault, False))

    def test_row(self):
        for disk in (Disk(), Disk(("0:2,3;",), 1), Disk(("0:2,3;", "1:2,4;"), 2), Disk(("0:2,3;", "1:2,3;"), 1), Disk(("0:2,3;", "1:2,3;", "2:0,0;"), 3)):
            self.check(forged(self.standing, disk=disk), ("row",))
        row = ((2, -1), (2, 3))
        self.check(forged(self.standing, row=row, disk=Disk(("0:2,-1;", "1:2,3;"), 2)), ("row",))

    def test_timeline(self):
        for words in (((2, 3), (2, 4)), ((2, 3),) * 3, ((2, 67), (2, 3))):
            self.check(self.with_line(Timeline(PAIR, 1).told(0, words)), ("timeline", 1))
        self.check(self.with_line(Timeline(PAIR, 1, plain(COINS, ((2, 3),) * 3))), ("timeline", 1))
        host = forged(self.standing.host, timeline=Timeline(PAIR, 0).told(0, ((2, 3), (3, 3))))
        self.check(forged(self.standing, host=host), ("timeline", 0))
        both = forged(self.with_line(Timeline(PAIR, 1).told(0, ((1, 1),))), host=host)
        self.check(both, ("timeline", 0))
        for words in ((), ((2, 3),), ((2, 3),) * 2):
            self.assertIsNone(first_fault(self.with_line(Timeline(PAIR, 1).told(0, words))))

    def test_settled(self):
        other = first_world(Game(COINS.kinds, COINS.entries, COINS.start[:2], arena=(12, 6)))
        self.check(self.with_line(Timeline(PAIR, 1, other).told(0, ((2, 3),) * 2)), ("settled", 1))
        self.check(self.with_line(Timeline(PAIR, 1, other)), ("settled", 1))
        line = self.standing.line(0)
        self.check(forged(self.standing, host=forged(self.standing.host, timeline=forged(line, settled_world=other))), ("settled", 0))

    def test_shown(self):
        line = self.standing.line(1)
        for parts in ({"shown_world": line.settled_world}, {"shown": line.settled - 2}, {"shown": line.settled + 4}, {"said": (0,) + line.said[1:]}):
            self.check(self.with_line(forged(line, **parts)), ("shown", 1))
        # Worlds that come by steps with used words, but are too far ahead or behind.
        worlds = list(plain_worlds(COINS, self.standing.row + tuple(line.used(tick) for tick in range(2, 6))))
        for shown, fault in ((0, ("shown", 1)), (1, None), (5, None), (6, ("shown", 1))):
            told = forged(line, shown=shown, shown_world=worlds[shown])
            self.assertEqual((told.settled, first_fault(self.with_line(told))), (2, fault))
        host = forged(self.standing.host, timeline=forged(self.standing.line(0), shown=9))
        self.check(forged(self.standing, host=host), ("shown", 0))

    def test_own(self):
        standing = run(PAIR, (("beat", 1, 3), ("beat", 1, 4), ("hand", 0), ("beat", 0, 2), ("tell",)))
        line = standing.line(1)
        self.assertEqual((standing.row, line.own), (((2, 3), (2, 3)), {0: 3, 1: 3, 2: 4}))
        other = Timeline(PAIR, 1).pressed(9).advanced()
        self.check(forged(standing, players=(forged(standing.players[0], timeline=other),)), ("own", 1))
        for entry, fault in ((0, ("own", 1)), (63, ("own", 1)), (9, None), (64, None), (127, None), (-1, None)):
            row = ((2, entry),)
            told = forged(standing, row=row, disk=Disk((f"0:2,{entry};",), 1), host=Host.of_row(PAIR, row), bag=Bag(),
                          players=(forged(standing.players[0], timeline=other),))
            self.assertEqual(first_fault(told), fault, entry)
        filled = run(PAIR, (("beat", 1, 3), ("beat", 0, 2), ("beat", 0, 2), ("tell",)))
        self.assertEqual((filled.row, filled.line(1).own, first_fault(filled)), (((2, 64),), {0: 3, 1: 3}, None))
        out = run(Setup(COINS, window=3, delay=1, patience=9), (("beat", 1, 3), ("go", 1), ("hand", 1), ("beat", 0, 2), ("tell",)))
        self.assertEqual(out.row, ((2, -1), (2, -1)))
        self.assertIsNone(first_fault(forged(out, players=(forged(out.players[0], timeline=Timeline(out.setup, 1).pressed(3)),))))

    def test_letters(self):
        bag = self.standing.bag
        self.assertIsNone(first_fault(forged(self.standing, bag=bag.sent(("rows", 1, 2, ())).sent(("keys", 1, 2, (9, 9), 0)))))
        for letter in (("rows", 1, 0, ((2, 3), (2, 4))), ("rows", 1, 1, ((2, 3), (2, 3))), ("rows", 1, 3, ()), ("rows", 1, 0, ((2, 67),)), ("rows", 2, 1, ((0, 3),)),
                       ("keys", 1, 3, (), 0), ("keys", 2, 9, (1,), 0)):
            self.check(forged(self.standing, bag=bag.sent(letter)), ("letters", len(bag)))
            self.check(forged(self.standing, bag=Bag((letter, letter)).sent_all(bag.letters)), ("letters", 0))
        for letter in (("word", 1, "go"), ("piece", 1, 99, 0, 1, "x")):
            self.assertIsNone(first_fault(forged(self.standing, bag=bag.sent(letter))))

    def test_disk(self):
        disk = self.standing.disk
        self.check(forged(self.standing, disk=disk.written("2:0,0;")), ("disk",))
        # A fall can leave the beginning of a block, and this can be a record.
        host = forged(self.standing.host, closed=((2, 3), (2, 3), (0, 0)))
        for block, fault in (("2:0,0;", None), ("2:0,0;x", None), ("2:0,1;", ("disk",)), ("2:0,1;x", ("disk",)), ("2:0,0", None), ("", None), ("3:0,0;", None)):
            self.assertEqual(first_fault(forged(self.standing, host=host, disk=disk.written(block))), fault)
        self.check(forged(self.standing, host=host, disk=disk.written("2:1,0;")), ("disk",))
        # Behind the row that a fall leaves nothing else is read.
        self.check(forged(self.standing, host=host, disk=disk.written("2:0,0;").written("3:0,0;")), ("disk",))


class RandomTest(unittest.TestCase):
    """Whole matches beside naive ones, under letters lost, doubled and overtaken, falls, comers and goers."""

    def test_random_matches(self):
        dice = Dice(171)
        seen = {"lost": 0, "doubled": 0, "overtaken": 0, "filled": 0, "out": 0, "came": 0, "torn": 0, "settled": 0}
        for game in [COINS] * 12 + [FOUR] * 12 + [ALONE] * 2 + [dice.game() for _ in range(14)]:
            setup = dice.small_setup(game)
            acts = dice.schedule(setup, 90, dice.some(0, 0, 1, 2))
            naive, standing, told, handing = NaiveMatch(setup), None, {}, []
            for at, now in enumerate(each_standing(setup, acts)):
                if at:
                    naive.act(acts[at - 1])
                    self.behind(standing, acts[at - 1], now)
                    handing += acts[at - 1][1:] if acts[at - 1][0] == "hand" else ()
                naive.check(self, now)
                self.words(now, told)
                self.assertIsNone(first_fault(now), (at, acts[:at]))
                standing = now
            self.assertEqual(run(setup, acts), standing)
            self.count(seen, standing, handing)
        self.assertGreater(min(seen.values()), 10, seen)

    def count(self, seen, standing, handing):
        """What has happened."""
        lost, doubled, overtaken = judged_handing(standing.bag, tuple(handing))
        entries = [entry for joint in standing.row for entry in joint[1:]]
        seen["lost"] += len(lost)
        seen["doubled"] += len(doubled)
        seen["overtaken"] += len(overtaken)
        seen["filled"] += sum(entry >= 64 for entry in entries)
        seen["out"] += sum(entry == -1 for entry in entries)
        seen["came"] += sum(player.timeline is not None and player.timeline.base > 0 for player in standing.players)
        seen["torn"] += sum(not block.endswith(";") for block in standing.disk.blocks)
        seen["settled"] += len(standing.row)

    def behind(self, former, act, now):
        """An act never takes back; handing twice is handing once; what is sure stays whatever falls."""
        self.assertEqual(now.row[:len(former.row)], former.row)
        self.assertEqual(now.bag.letters[:len(former.bag)], former.bag.letters)
        for one, other in zip(former.players, now.players):
            if one.timeline is not None and other.timeline is not None:
                self.assertGreaterEqual(other.timeline.settled, one.timeline.settled)
        self.assertGreaterEqual(now.line(0).settled, former.line(0).settled)
        self.assertTrue(is_row(now.setup, now.row) and now.row == read_book(now.setup, Disk(now.disk.lasting, now.disk.sure)))
        if act[0] == "hand":
            self.assertEqual(now.after(act), now)
        for left in each_fall(now.disk):
            row = read_book(now.setup, left)
            self.assertEqual((row[:len(now.row)], row), (now.row, now.host.closed[:len(row)]))

    def words(self, standing, told):
        """Each said entry is a word of its seat for just this tick; the only one that its machine said for it."""
        setup = standing.setup
        for letter in standing.bag.letters:
            if letter[0] == "keys" and letter[1] < setup.seats:
                for tick, word in enumerate(letter[3], letter[2]):
                    self.assertEqual(told.setdefault((letter[1], tick), {word}), {word})
        for tick, word in standing.line(0).own.items():
            told.setdefault((0, tick), set()).add(word)
        for tick, joint in enumerate(standing.row):
            for seat, entry in enumerate(joint):
                if 0 <= entry < 64:
                    # The host says a word and closes its tick in one beat: when it was told, its own word was seen there.
                    self.assertIn(entry, told[seat, tick] if seat else told.get((0, tick), {entry}))

    def test_put_together(self):
        dice = Dice(172)
        for _ in range(30):
            setup = dice.small_setup(dice.some(COINS, FOUR, dice.game()))
            acts = dice.schedule(setup, 50)
            at = dice.random.randint(0, 50)
            standing = run(setup, acts[:at])
            for act in acts[at:]:
                standing = standing.after(act)
            self.assertEqual(standing, run(setup, acts))
            self.assertEqual(str(standing), f"standing of {len(standing.players) + 1} machines: {len(standing.row)} settled, {len(standing.bag)} letters")

    def test_a_long_match(self):
        dice = Dice(173)
        setup = Setup(FOUR, window=12, delay=8, patience=3, silence=20, starters=(0, 1), lookers=2)
        acts = dice.schedule(setup, 600, False)
        standing = run(setup, acts)
        self.assertIs(is_sound(standing), True)
        self.assertGreater(len(standing.row), 50)

    def test_waiting(self):
        """A machine that has a world waits at its beat exactly if shown less settled is W."""
        dice = Dice(174)
        waits = 0
        for _ in range(25):
            setup = dice.small_setup(dice.some(COINS, FOUR))
            for standing in each_standing(setup, dice.schedule(setup, 60)):
                for player in standing.players:
                    if player.timeline is not None:
                        is_full = player.timeline.shown - player.timeline.settled == setup.window
                        after_beat = player.beat(0).timeline
                        self.assertEqual((player.is_waiting, after_beat.shown), (is_full, player.timeline.shown + (not is_full)))
                        waits += is_full
        self.assertGreater(waits, 100)


class NotTrueTest(unittest.TestCase):
    def test_what_is_not_true(self):
        # If each letter is handed over, all machines are settled alike: what a fall keeps is settled without a letter.
        end = run(PAIR, (("beat", 0, 2), ("beat", 0, 2), ("fall", 1, 0)))
        self.assertEqual((len(end.bag), end.line(0).settled, end.line(1).settled), (0, 1, 0))
        # A fall behind "tell" changes the host's row.
        self.assertEqual(end.after(("fall", 0, 0)).row, end.row)
        # Two schedules with the same beats settle the same row: one handing more.
        beats = (("beat", 1, 3), ("beat", 0, 2), ("beat", 0, 2), ("tell",))
        self.assertNotEqual(run(PAIR, beats).row, run(PAIR, (*beats[:1], ("hand", 0), *beats[1:])).row)

    def test_what_is_not_true_of_all(self):
        # A machine whose guesses were all right is never behind; two machines that show the same tick show the same world.
        two = run(PAIR, (("beat", 0, 2), ("beat", 1, 1)))
        self.assertEqual((two.view(0).tick, two.view(1).tick, two.view(0) == two.view(1)), (1, 1, False))
        # The host's own machine never goes back.
        back = run(PAIR, (("beat", 0, 2), ("beat", 1, 1), ("hand", 0), ("beat", 0, 2), ("tell",)))
        self.assertGreater(back.line(0).reruns, 0)
        # A word that a machine has said counts; what the host has closed stays.
        late = run(PAIR, (("beat", 1, 1), ("beat", 0, 2), ("beat", 0, 2), ("hand", 0)))
        self.assertEqual((late.host.closed[0], late.after(("fall", 0, 0)).host.closed), ((2, 64), ()))


if __name__ == "__main__":
    unittest.main()
