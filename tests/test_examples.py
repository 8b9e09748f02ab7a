"""The examples of the document, as they stand there.

A line behind `>>>` is a statement, or an expression whose value, or error, the line below tells.
"""

import unittest

from helper import error_of
from settledplay.arena import boxes
from settledplay.base import luck, numbers, texts
from settledplay.check import prints
from settledplay.disk import book
from settledplay.keep import parts, ring
from settledplay.match import bounds, effects, match
from settledplay.net import bag, letters
from settledplay.play import again, keys, step, timeline
from settledplay.rules import forms, runs
from settledplay.seat import host, joining, player
from settledplay.tape import tapes
from settledplay.world import worlds

VALUES = """
>>> PLACE = (("x", 0), ("y", 0), ("dx", 0), ("dy", 0))
>>> KINDS = (("hero", PLACE + (("seat", 0),), (1, 1, True)), ("coin", PLACE, (1, 1, False)))
>>> GRAB = ("first", "hero", "h", ("meets", "h", 0), (("tell", 1, ("of", "h", "seat")), ("drop", "")), ())
>>> ENTRIES = (("for", "hero", (("set", "dx", ("minus", ("key", 1), ("key", 0))),)), ("move",), ("for", "coin", (GRAB,)))
>>> START = (("hero", (2, 2, 0, 0, 0)), ("hero", (8, 2, 0, 0, 1)), ("coin", (5, 2, 0, 0)))
>>> COINS = Game(KINDS, ENTRIES, START, arena=(12, 6))
>>> PAIR = Setup(COINS, window=3, delay=1, patience=2, silence=3)
>>> ROW = ((2, 0), (2, 1), (0, 65))
"""
NUMBERS_AND_TEXTS = """
>>> [clamped(-10 ** 12), worked("times", 100000, 100000), worked("over", -7, 2), worked("rest", -7, 2), worked("over", 5, 0)]
[-1000000000, 1000000000, -4, 1, 0]
>>> [text_of((1, "a:", None, (-30,))), value_of("t2:t0:s3:a b"), text_of("")]
['t4:i1;s2:a:nt1:i-30;', ((), 'a b'), 's0:']
>>> [framed("ab"), parted("f2:ab0293f0:0000"), parted("f2:ab0293f1:x"), parted("f2:ab0294")]
['f2:ab0293', (('ab', ''), 'whole', 16), (('ab',), 'torn', 9), ((), 'bent', 0)]
>>> value_of("t2:i1;i-0;")
raises ParseError(8)
>>> value_of("nn")
raises ParseError(1)
"""
LUCK = """
>>> [next_luck(0), luck_ahead(271829), luck_ahead(0), next_luck(STILL) == STILL, luck_after(0, 3), luck_after(0, 10 ** 12), luck_before(776304030, 3)]
[271829, 0, 811430527, True, 776304030, 37247654, 0]
>>> [lucks_between(0, 776304030), lucks_between(0, 1), lucks_between(1, 0), lucks_between(5, 5), lucks_between(0, STILL), lucks_between(STILL, STILL)]
[3, 433376679, 566623257, 0, None, 0]
>>> [stirred(2), unstirred(271861), unstirred(0), spot_number(0, 0, 0, 0), spot_number(0, 0, 0, 1), spot_number(7, 1, 3, 0), turn_of(0, 0, 0, 941293244)]
[271861, 2, 237956216, 754833868, 941293244, 9532664, 1]
>>> [drawn(0, 0, 0, 0, 6), drawn(0, 0, 0, 1, 6), drawn(7, 1, 3, 1, 100), drawn(7, 1, 3, 0, 1)]
[4, 5, 99, 0]
>>> drawn(0, 0, 0, 0, 1001)
raises InvalidNumber(1001)
"""
WORLDS = """
>>> PLAIN = Game((("box", (("x", 3), ("y", 4)), None), ("dot", (("n", 0),), None)), (("move",),), (("box", (3, -4)), ("dot", (7,))), arena=(9, 9))
>>> first, more = first_world(PLAIN), made(first_world(PLAIN), "dot", (5,))
>>> [world_text(first), more[1], more[0].ids("dot"), first.ids("dot"), first.next_id, str(more[0]), 1 in first, True in first]
['0 2 0;0 box 3 -4;1 dot 7', 2, (1, 2), (1,), 2, 'world at 0 of 3 things', True, False]
>>> less = dropped(more[0], 2)
>>> [less == first, made(less, "dot", (5,))[1], read_world(world_text(less)) == less, value_of(PLAIN, less, 0, "y"), changed(first, 0, 1, 8).numbers(0)]
[False, 3, True, -4, (3, 8)]
>>> [is_world_of(PLAIN, less), is_world_of(PLAIN, World(4, 9, 0, ((5, "box", (1, 2, 3)),)))]
[True, False]
>>> read_world("0 2 0;0 box 3 04")
raises InvalidWorld
"""
GAMES = """
>>> [COINS.names, COINS.fields("coin"), work(COINS, 0), work(COINS, 2)]
[('hero', 'coin'), ('x', 'y', 'dx', 'dy'), 48, 732]
>>> [game_fault(KINDS, ENTRIES, START, arena=(0, 6)), game_fault(KINDS, (("for", "coin", (("set", "dx", ("own", "seat")),)),), START, arena=(12, 6))]
[('arena',), ('entries', 0, (2, 0, 2))]
"""
RUNS = """
>>> OPEN = first_world(COINS)
>>> run(COINS, OPEN, (2, 0), 0, 0)
(0, 0, ((('field', 0, 'seat'), 0), (('key', 0), 2)), ((0, 'dx', 1),), (), (), 0, ())
>>> [put_on(COINS, OPEN, run(COINS, OPEN, (2, 0), 0, 0)).things[0], value_at(COINS, OPEN, (2, 0), ("ids", "hero"))]
[(0, 'hero', (2, 2, 1, 0, 0)), (0, 1)]
>>> [has_same_reads(COINS, OPEN, (2, 5), run(COINS, OPEN, (2, 0), 0, at)) for at in (0, 1)]
[True, False]
"""
BOXES = """
>>> WALL, BALL = (5, 0, 1, 4), (1, 1, 2, 2)
>>> [reach((12, 6), BALL, (WALL,), "right", 9), barrier((12, 6), BALL, (WALL,), "right", 9), barrier((12, 6), BALL, (WALL,), "left", 9)]
[2, 0, -1]
>>> [moved_box((12, 6), BALL, (WALL,), 9, 9), moved_box((12, 6), (5, 1, 2, 2), (WALL,), 9, 0), moved_box((12, 6), (-3, 1, 2, 2), (), -4, 0), are_meeting((3, 1, 2, 2), WALL, grown=1)]
[(3, 4, 2, 2), (10, 1, 2, 2), (-3, 1, 2, 2), True]
>>> AT = (("x", 0), ("y", 0), ("dx", 0), ("dy", 0))
>>> RACE = Game((("car", AT, (2, 1, True)), ("dot", AT, (1, 1, False))), (("move",),), (("car", (0, 0, 4, 0)), ("car", (4, 0, 4, 0)), ("dot", (5, 0, -9, 1))), arena=(12, 6))
>>> [moved_thing(RACE, first_world(RACE), 0), move_all(RACE, first_world(RACE)).things[1:]]
[(2, 0), ((1, 'car', (8, 0, 4, 0)), (2, 'dot', (4, 1, -9, 1)))]
"""
STEPS = """
>>> FIRST = plain(COINS, ((2, 1), (2, 1)))
>>> [FIRST.tick, FIRST.things]
[2, ((0, 'hero', (4, 2, 1, 0, 0)), (1, 'hero', (6, 2, -1, 0, 1)), (2, 'coin', (5, 2, 0, 0)))]
>>> [step(COINS, FIRST, (2, 1))[2], next_world(COINS, FIRST, (2, 1)).things, next_world(COINS, FIRST, (66, -1)) == next_world(COINS, FIRST, (2, 0))]
[((1, 0),), ((0, 'hero', (5, 2, 1, 0, 0)), (1, 'hero', (6, 2, -1, 0, 1))), True]
>>> [len(list(plain_worlds(COINS, ROW))), plain(COINS, ROW).things[:2], is_row(COINS, ROW), is_joint(COINS, (128, 0))]
[4, ((0, 'hero', (4, 2, 0, 0, 0)), (1, 'hero', (6, 2, -1, 0, 1))), True, False]
>>> plain(COINS, ((1,),))
raises InvalidRow
"""
AGAIN = """
>>> OPEN = first_world(COINS)
>>> STEP = step(COINS, OPEN, (2, 1))
>>> [len(STEP[1]), again(COINS, STEP[1], OPEN, (2, 0))[3], again(COINS, STEP[1], OPEN, (2, 0))[:3] == step(COINS, OPEN, (2, 0))]
[6, ((0, 1), (1, 1), (1, 2), (2, 2)), True]
>>> [again(COINS, STEP[1], OPEN, word)[3] for word in ((2, 1), (6, 1), (-1, 1))]
[(), ((0, 0),), ((0, 0), (1, 0), (1, 1), (1, 2), (2, 2))]
>>> unlike_places(COINS, OPEN, (2, 1), STEP[0], (2, 0))
(('field', 0, 'dx'), ('field', 0, 'x'), ('field', 1, 'dx'), ('field', 1, 'x'), ('key', 1), ('luck',), ('tick',))
>>> changed_places(COINS, STEP[1][0])
(('field', 0, 'dx'),)
"""
KEEP = """
>>> ONE = World(4, 3, 9, ((0, "hero", (2, 2, 0, 0, 0)), (2, "coin", (5, 2, 0, 0))))
>>> TWO = World(5, 4, 9, ((0, "hero", (3, 2, 1, 0, 0)), (3, "coin", (7, 1, 0, 0))))
>>> STEP = difference(ONE, TWO)
>>> [STEP, size(STEP), applied(ONE, STEP) == TWO]
[(5, 4, 9, (2,), ((3, 'coin', (7, 1, 0, 0)),), ((0, 0, 3), (0, 2, 1))), 11, True]
>>> RING = Ring(ONE, spacing=3).put(TWO)
>>> [RING.wholes, RING.work(5), RING.world(5) == TWO, 6 in RING]
[(4,), 1, True, False]
>>> applied(TWO, STEP)
raises Refused(('fit', 2))
"""
KEYS = """
>>> SETUP = Setup(COINS)
>>> [is_row(SETUP, ((0, 67), (1, -1))), is_row(SETUP, ((0, -1), (0, 3))), stay(SETUP, ((0, -1),), 1), guess(SETUP, ((0, 67),), 1)]
[True, False, 'out', 3]
>>> [used(SETUP, ((0, 67),), 0, {1: 2}, tick) for tick in (0, 1, 2)]
[(0, 3), (2, 3), (0, 3)]
>>> [joined(SETUP, ((0, 3),), 0, ((0, 3), (2, 3))), first_change(SETUP, ((0, 3),), ((0, 3), (2, 0)), 0, {1: 2}, 4)]
[((0, 3), (2, 3)), 1]
>>> joined(SETUP, ((0, 3),), 2, ((0, 3),))
raises Refused(('hole', 1))
"""
TIMELINES = """
>>> TWO = Timeline(PAIR, 0).pressed(2).advanced().pressed(2).advanced()
>>> [str(TWO), TWO.own, TWO.used(1), TWO.shown_world.numbers(0)[0], TWO.shown_world.numbers(1)[0], TWO.reruns, TWO.advanced().effects_at(2)]
['seat 0: 0 settled, 2 shown', {0: 2, 1: 2, 2: 2}, (2, 0), 4, 8, 0, ((1, 0),)]
>>> THEN = TWO.told(0, ((2, 1),))
>>> [str(THEN), THEN.own, THEN.used(1), THEN.shown_world.numbers(1)[0], THEN.reruns, THEN.told(1, ((2, 65),)).reruns]
['seat 0: 1 settled, 2 shown', {1: 2, 2: 2}, (2, 1), 6, 2, 2]
>>> viewed(PAIR, 0, ((2, 1),), {1: 2}, 2) == THEN.shown_world
True
>>> TWO.advanced().advanced()
raises Refused(('full',))
"""
NET = """
>>> KEYS, ROWS = ("keys", 1, 3, (0, 5), 77), ("rows", 1, 0, ((0, 5), (64, -1)))
>>> [is_letter(KEYS), is_letter(("keys", 0, 3, (), 77)), is_letter(("rows", 1, 0, ((0, 128),))), goal(KEYS), goal(ROWS)]
[True, False, False, -1, 1]
>>> [letter_text(("word", 2, "go")), read_letter("t3:s4:wordi2;s4:come"), is_letter(("piece", 1, 4, 2, 2, "x"))]
['t3:s4:wordi2;s2:go', ('word', 2, 'come'), False]
>>> BAG = Bag((KEYS,)).sent(ROWS).sent(KEYS)
>>> [len(BAG), BAG.to(HOST), BAG.to(1), BAG.letter(1) == ROWS, str(BAG), BAG == Bag((KEYS, ROWS, KEYS))]
[3, (0, 2), (1,), True, 'bag of 3 letters', True]
>>> [judged_handing(BAG, (1, 2, 0, 2)), judged_handing(BAG, (1, 0, 2)), judged_handing(BAG, ())]
[((), (2,), (0,)), ((), (), ()), ((0, 1, 2), (), ())]
>>> read_letter("i1;")
raises InvalidLetter
>>> BAG.letter(3)
raises InvalidNumber(3)
"""
HOSTS = """
>>> HOST = Host(PAIR).beat(2)
>>> [HOST.closed, HOST.idle, HOST.timeline.own, HOST.mail()]
[(), 1, {0: 2, 1: 2}, (('rows', 1, 0, ()),)]
>>> SAID = HOST.heard(("keys", 1, 0, (5, 6), 0))
>>> NEXT = SAID.beat(0)
>>> [SAID.waiting, SAID.heard(("keys", 1, 0, (7,), 0)) == SAID, NEXT.closed, NEXT.row, NEXT.made_sure().mail()]
[{1: {0: 5, 1: 6}}, True, ((2, 5), (2, 6)), (), (('rows', 1, 0, ((2, 5), (2, 6))),)]
>>> [NEXT.beat(0).idle, NEXT.beat(0).beat(0).closed[2], is_filled(PAIR, ((2, 5), (2, 70)), 1, 1), is_silent(PAIR, ((2, 64),) * 3, 1)]
[1, (0, 70), True, True]
>>> [Host.of_row(PAIR, ROW).timeline.settled, Host.of_row(PAIR, ROW).marks]
[3, {}]
"""
BOOKS = """
>>> SETUP = Setup(COINS)
>>> BOOK = with_tick(with_tick(Disk(), 0, (0, 3)).made_sure(), 1, (2, 67))
>>> [BOOK.blocks, BOOK.sure, read_book(SETUP, BOOK), record_text(12, (0, -1)), read_record("1:2,67;"), read_record("1:2,6")]
[('0:0,3;', '1:2,67;'), 1, ((0, 3), (2, 67)), '12:0,-1;', (1, (2, 67)), None]
>>> TORN = BOOK.fallen(0, 5)
>>> [TORN.blocks, TORN.sure, read_book(SETUP, TORN), read_book(SETUP, with_tick(TORN, 1, (2, 3))), len(list(each_fall(BOOK)))]
[('0:0,3;', '1:2,6'), 2, ((0, 3),), ((0, 3), (2, 3)), 8]
>>> [is_left_by(BOOK, TORN), is_left_by(BOOK, Disk()), is_left_by(BOOK, BOOK), BOOK.fallen(1, 0) == BOOK.made_sure()]
[True, False, False, True]
>>> BOOK.fallen(2, 0)
raises InvalidNumber(2)
"""
PLAYERS = """
>>> ONE = Player(PAIR, 1).beat(3)
>>> [ONE.state, ONE.timeline.own, ONE.letter()[:4], ONE.is_waiting, ONE.beat(0).beat(0).is_waiting]
['there', {0: 3, 1: 3}, ('keys', 1, 0, (3, 3)), False, True]
>>> TOLD = ONE.heard(("rows", 1, 0, ((2, 3),)))
>>> [TOLD.timeline.settled, TOLD.heard(("rows", 1, 0, ((2, 3),))) == TOLD, TOLD.heard(("rows", 1, 3, ((2, 3),))) == TOLD, TOLD.letter()[:4]]
[1, True, True, ('keys', 1, 1, (3,))]
>>> LATE = Player(Setup(COINS, starters=(0,), lookers=1), 2)
>>> [LATE.state, LATE.beat(1) == LATE, LATE.come().letter(), LATE.come().go().state, LATE.seat]
['away', True, ('word', 2, 'come'), 'gone', None]
"""
# What FIRST is told in the examples of steps.
JOINING = """
>>> FIRST = plain(COINS, ((2, 1), (2, 1)))
>>> SETUP = Setup(COINS)
>>> PART, LETTERS = Gathering(SETUP, 1).heard(("piece", 1, 2, 1, 3, "x")), offer(SETUP, 1, FIRST)
>>> [PART.lacks, PART.heard(LETTERS[0]) == PART, LETTERS[0][:5], gathered(SETUP, 1, LETTERS * 2).world() == FIRST, Gathering(SETUP, 1).is_whole()]
[(0, 2), True, ('piece', 1, 2, 0, 1), True, False]
>>> PART.begun()
raises Refused(('pieces', (0, 2)))
"""
MATCHES = """
>>> ACTS = (("beat", 1, 3), ("beat", 0, 2), ("hand", 0), ("beat", 0, 2), ("tell",), ("hand", 1))
>>> END = run(PAIR, ACTS)
>>> [END.row, END.line(1).settled, END.line(1).shown, len(END.bag), is_sound(END), str(END)]
[((2, 3), (2, 3)), 2, 1, 2, True, 'standing of 2 machines: 2 settled, 2 letters']
>>> [END.after(("fall", 0, 0)).row == END.row, run(PAIR, ACTS[:4] + (("fall", 1, 3),)).row, run(PAIR, ACTS[:4]).row]
[True, ((2, 3),), ()]
>>> END.after(("hand", 2))
raises InvalidAct
"""
EFFECTS = """
>>> LEFT, RIGHT = effects_of(COINS, ((2, 0),) * 3), effects_of(COINS, ((0, 1),) * 3)
>>> [LEFT, RIGHT, effect_change(LEFT, RIGHT), changed(LEFT, LEFT, RIGHT) == RIGHT]
[((2, 0, 1, 0),), ((2, 0, 1, 1),), (((2, 0, 1, 0),), ((2, 0, 1, 1),)), True]
>>> [list(tellings(COINS, ((2, 0),) * 3)), is_lot(LEFT + LEFT), is_lot(())]
[[(0, ()), (1, ()), (2, ((1, 0),))], False, True]
>>> EAR = Ear().heard(0, ()).heard(1, ()).heard(2, ((1, 0),))
>>> [EAR.ticks, EAR.lot == LEFT, str(EAR), EAR.heard(1, ((5, 5),)) == EAR, len(EAR)]
[3, True, 'ear of 3 ticks, 1 effects', True, 1]
>>> EAR.heard(4, ())
raises Refused(('hole', 3))
>>> changed((), LEFT, ())
raises Refused(('back', (2, 0, 1, 0)))
"""
TAPES = """
>>> TAPE = Tape(COINS, ((2, 0), (2, 1), (0, 0)))
>>> [len(TAPE), TAPE.world(2).tick, judged(tape_text(TAPE))[0], tape_of(tape_text(TAPE)) == TAPE, str(TAPE.until(1))]
[3, 2, 'whole', True, 'tape of 1 ticks']
>>> CUT = judged(tape_text(TAPE)[:-1])
>>> [CUT[0], CUT[1] == TAPE, tape_text(TAPE)[CUT[2]:]]
['cut', True, 'f12:t2:s3:endi3;6259']
>>> [first_unlike(TAPE, TAPE.until(2)), worlds_part(TAPE, TAPE.until(2)), Seeker(TAPE, spacing=2).ticks, Seeker(TAPE, spacing=2).work(3)]
[2, None, (0, 2), 1]
"""
PRINTS = """
>>> [text_print("ab"), text_print("b!"), text_print("a@"), text_print("")]
[3105, 3071, 3071, 0]
>>> FIRST, SECOND, STILL = plain(COINS, ()), plain(COINS, ((2, 0),)), ((0, 0),)
>>> [first_stray(COINS, ((2, 0),), (FIRST, SECOND)), first_stray(COINS, STILL, (FIRST, SECOND)), unlike_parts(SECOND, plain(COINS, STILL))]
[None, 1, (0,)]
>>> [stray_paper(COINS, STILL, (FIRST, SECOND)), is_stray_paper(COINS, STILL, (FIRST, SECOND), ("step", 1, 1)), stray_paper(COINS, (), (FIRST,))]
[('step', 1, 0), False, None]
>>> [halved((5, 7, 9, 9, 4), (5, 7, 1, 1, 1)), halved((5, 6), (5, 6)), halved((4, 6), (5, 6)), halved((5, 8, 6), (5, 7, 6))]
[(2, (0, 4, 2, 1)), (None, (0, 1)), (0, (0,)), (None, (0, 2))]
>>> is_print_paper(COINS, (), ("print", 0, 5, world_print(FIRST)))
True
"""
BOUNDS = """
>>> WORDS = ((2, 0), (2, 1), (0, 1))
>>> even_schedule(PAIR, 1, WORDS[:2])
(('beat', 0, 2), ('beat', 1, 0), ('tell',), ('hand', 0), ('hand', 1), ('beat', 0, 2), ('beat', 1, 1), ('tell',))
>>> [even_row(PAIR, 1, WORDS), even_depths(PAIR, 1), does_never_wait(PAIR, 1), does_never_wait(PAIR, 2)]
[((2, 0), (2, 0), (2, 1)), (2, 1, 2, 1), True, False]
>>> [calm_round(Standing(PAIR)), calm_goal(Standing(PAIR)), calm_bound(Standing(PAIR)), len(calm_schedule(Standing(PAIR)))]
[(('beat', 1, 0), ('hand', 0), ('beat', 0, 0), ('tell',), ('hand', 1)), 1, 4, 5]
>>> even_row(PAIR, 2, WORDS)
raises Refused(('waits',))
"""


def names_of(*modules):
    """All names that the modules have."""
    return {name: value for module in modules for name, value in vars(module).items() if not name.startswith("__")}


def told(test, block, names):
    """Go through a block; its statements put their names to the others."""
    lines = block.strip().split("\n")
    for at, line in enumerate(lines):
        if not line.startswith(">>> "):
            continue
        code = line[len(">>> "):]
        answer = lines[at + 1] if at + 1 < len(lines) else ">>> "
        if answer.startswith(">>> "):
            exec(code, names)
        elif answer.startswith("raises "):
            name, _, kept = answer[len("raises "):].partition("(")
            wanted = (name, kept[:-1]) if kept else (name,)
            test.assertEqual(error_of(eval, code, names), wanted, code)
        else:
            test.assertEqual(repr(eval(code, names)), answer, code)


class ExamplesTest(unittest.TestCase):
    def check(self, block, *modules):
        values = names_of(forms, keys)
        told(self, VALUES, values)
        told(self, block, {**values, **names_of(*modules)})

    def test_numbers_and_texts(self):
        self.check(NUMBERS_AND_TEXTS, numbers, texts)

    def test_luck(self):
        self.check(LUCK, luck)

    def test_worlds(self):
        self.check(WORLDS, worlds)

    def test_games(self):
        self.check(GAMES, forms)

    def test_runs(self):
        self.check(RUNS, worlds, runs)

    def test_boxes(self):
        self.check(BOXES, worlds, boxes)

    def test_steps(self):
        self.check(STEPS, step)

    def test_again(self):
        self.check(AGAIN, worlds, step, again)

    def test_keep(self):
        self.check(KEEP, worlds, parts, ring)

    def test_keys(self):
        self.check(KEYS, keys)

    def test_timelines(self):
        self.check(TIMELINES, timeline)

    def test_net(self):
        self.check(NET, letters, bag)

    def test_hosts(self):
        self.check(HOSTS, host)

    def test_books(self):
        self.check(BOOKS, book)

    def test_players(self):
        self.check(PLAYERS, player)

    def test_joining(self):
        self.check(JOINING, step, joining)

    def test_matches(self):
        self.check(MATCHES, match)

    def test_effects(self):
        self.check(EFFECTS, effects)

    def test_tapes(self):
        self.check(TAPES, tapes)

    def test_prints(self):
        self.check(PRINTS, step, prints)

    def test_bounds(self):
        self.check(BOUNDS, match, bounds)


if __name__ == "__main__":
    unittest.main()
