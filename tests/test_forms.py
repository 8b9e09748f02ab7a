"""Stage 4: games as data, sound or with a fault."""

import unittest

from helper import (COINS, ENTRIES, JUNK, KINDS, PLACE, START, Dice, deep, error_of, name_error, number_error,
                    refused_all)
from settledplay.rules import forms
from settledplay.rules.forms import Game, game_fault, work

DOT = ("dot", (("n", 7),), None)
ALL = KINDS + (DOT,)
BAD_WORDS = ("", "nothing", "Set", "plus ", None, True, 5, ())
BAD_NAMES = ("", "X", "a1", "a b", "abcdefghi", "h\n", None, True, 5, (), ["h"], {})
# Parts of games that are no such thing, each of them tried in the place of all numbers with bounds.
BAD_INTEGERS = (True, False, None, "1", 10 ** 60, (1,), [1], {})


def fault_of(*, kinds=ALL, entries=(("move",),), start=(), arena=(12, 6), **more):
    return game_fault(kinds, entries, start, arena=arena, **more)


def path_of(row, kind="hero"):
    """The path of the first wrong piece of a row, without the (2,) ahead of it; None for a right one."""
    fault = fault_of(entries=(("for", kind, row),))
    if fault is None:
        return None
    assert fault[:2] == ("entries", 0) and fault[2][:1] == (2,), fault
    return fault[2][1:]


def at_e(e, kind="hero"):
    """The path of the first wrong piece within an expression that stands in `tell`."""
    path = path_of((("tell", 1, e),), kind)
    if path is not None:
        assert path[:2] == (0, 2), path
    return None if path is None else path[2:]


def nested(many, word="not", inside=1):
    """So many pieces of one form within one another, with a number as the last one."""
    for _ in range(many - 1):
        inside = (word, inside)
    return inside


class PartsTest(unittest.TestCase):
    def test_constants(self):
        told = (forms.MAX_SIZE, forms.MAX_WITHIN, forms.MAX_THINGS, forms.MAX_WORK)
        self.assertEqual(told, (60, 2, 12, 20000))

    def test_kinds_as_a_part(self):
        kinds = tuple((name, (("n", 1),), None) for name in "abcdefg")
        for many in range(1, 7):
            self.assertIsNone(fault_of(kinds=kinds[:many]))
        for value in ((), kinds, list(kinds[:2]), None, True, "a", {}):
            self.assertEqual(fault_of(kinds=value), ("kinds",))

    def test_kinds_one_by_one(self):
        good = ("ok", (("n", 1),), None)
        for name in BAD_NAMES:
            self.assertEqual(fault_of(kinds=(good, (name, (("n", 1),), None))), ("kinds", 1))
            self.assertEqual(fault_of(kinds=(good, ("b", (("n", 1), (name, 1)), None))), ("kinds", 1))
        for value in JUNK + (good[:2], good + (1,), list(good)):
            self.assertEqual(fault_of(kinds=(good, value, None)), ("kinds", 1))
        self.assertEqual(fault_of(kinds=(good, ("b", (("n", 2),), None), good)), ("kinds", 2))
        for name in ("a", "z", "abcdefgh"):
            self.assertIsNone(fault_of(kinds=((name, ((name, 1),), None),)))

    def test_fields_of_kinds(self):
        eight = tuple((name, 0) for name in "abcdefgh")
        self.assertIsNone(fault_of(kinds=(("k", eight, None),)))
        bad = [(), eight + (("i", 0),), (("a", 0), ("a", 0)), (("a",),), (("a", 0, 0),), (["a", 0],), [("a", 0)], None, 5]
        bad += [(("a", number),) for number in (True, None, 10 ** 9 + 1, -10 ** 9 - 1, "1", (1,))]
        for fields in bad:
            self.assertEqual(fault_of(kinds=(("k", fields, None),)), ("kinds", 0), fields)
        for number in (10 ** 9, -10 ** 9):
            self.assertIsNone(fault_of(kinds=(("k", (("a", number),), None),)))

    def test_bodies_of_kinds(self):
        for body in (None, (1, 1, True), (40, 40, False), (1, 40, True)):
            self.assertIsNone(fault_of(kinds=(("k", PLACE, body),)))
        bad = [(0, 1, True), (1, 0, True), (41, 1, True), (1, 41, True), (1, 1, 1), (1, 1, 0), (1, 1, None), (1, 1),
               (1, 1, True, True), [1, 1, True], True, 1, (), (-1, 1, True)]
        bad += [(wrong, 1, True) for wrong in BAD_INTEGERS] + [(1, wrong, True) for wrong in BAD_INTEGERS]
        for body in bad:
            self.assertEqual(fault_of(kinds=(("k", PLACE, body),)), ("kinds", 0), body)
        for at in range(4):
            fields = PLACE[:at] + PLACE[at + 1:]
            self.assertEqual(fault_of(kinds=(("k", fields, (1, 1, True)),)), ("kinds", 0))
            self.assertIsNone(fault_of(kinds=(("k", fields, None),)))

    def test_entries_as_a_part(self):
        for many in (1, 16):
            self.assertIsNone(fault_of(entries=(("move",),) * many))
        for value in ((), (("move",),) * 17, [("move",)], None, True, "move", 5):
            self.assertEqual(fault_of(entries=value), ("entries",))

    def test_entries_of_neither_sort(self):
        bad = [("move", 1), ("walk",), ["move"], ("for", "hero"), ("for", "hero", (), ()), ("for", "elf", ()),
               ("for", "hero", []), ("for", "hero", None), ("for", [], ()), ("each", "hero", ()), ["for", "hero", ()]]
        for entry in bad + list(JUNK):
            self.assertEqual(fault_of(entries=(("move",), entry, None)), ("entries", 1, ()), entry)
        self.assertIsNone(fault_of(entries=(("for", "hero", ()),)))

    def test_start(self):
        thing = ("dot", (5,))
        for many in (0, 1, 12):
            self.assertIsNone(fault_of(start=(thing,) * many))
        for value in ((thing,) * 13, (None,) * 13, [thing], None, True, "dot", 5):
            self.assertEqual(fault_of(start=value), ("start",))
        bad = [("dot",), ("dot", (5,), 1), ("dot", ()), ("dot", (5, 5)), ("dot", [5]), ("elf", (5,)), ([], (5,)),
               ("dot", (True,)), ("dot", (None,)), ("dot", (10 ** 9 + 1,)), ("dot", ("5",)), ["dot", (5,)],
               ("hero", (1, 2, 3, 4))]
        for pair in bad + list(JUNK):
            self.assertEqual(fault_of(start=(thing, pair, None)), ("start", 1), pair)

    def test_arena_seats_and_luck(self):
        for arena in ((1, 1), (400, 400)):
            self.assertIsNone(fault_of(arena=arena))
        wrong = [0, 401, -1, *BAD_INTEGERS]
        for arena in [(12,), (12, 6, 6), [12, 6], None, 12] + [(12, n) for n in wrong] + [(n, 6) for n in wrong]:
            self.assertEqual(fault_of(arena=arena), ("arena",))
        for seats in (1, 4):
            self.assertIsNone(fault_of(seats=seats))
        for seats in (0, 5, -1, *BAD_INTEGERS):
            self.assertEqual(fault_of(seats=seats), ("seats",))
        for luck in (0, 999999936):
            self.assertIsNone(fault_of(luck=luck))
        for luck in (-1, 999999937, *BAD_INTEGERS):
            self.assertEqual(fault_of(luck=luck), ("luck",))

    def test_which_fault_comes_first(self):
        dear = ("for", "dot", (("each", "dot", "t", (("each", "dot", "u", (("tell", 1, nested(20)),)),)),))
        wrong = [("kinds", ALL[:1] * 2, ("kinds", 1)), ("entries", (dear, ("for", "dot", (5,))), ("entries", 1, (2, 0))),
                 ("start", (("dot", ()),), ("start", 0)), ("arena", (0, 0), ("arena",)), ("seats", 0, ("seats",)),
                 ("luck", -1, ("luck",)), ("entries", (dear,), ("work",))]
        for at, (name, value, fault) in enumerate(wrong):
            self.assertEqual(fault_of(**{name: value}), fault)
            for later, other, _ in wrong[at + 1:]:
                if later != name:
                    self.assertEqual(fault_of(**{name: value, later: other}), fault)
        self.assertEqual(fault_of(kinds=(5, 5)), ("kinds", 0))
        self.assertEqual(fault_of(entries=(("for", "dot", (5,)), 5)), ("entries", 0, (2, 0)))


class PiecesTest(unittest.TestCase):
    def test_right_statements(self):
        row = (
            ("set", "dx", 5), ("let", "v", 1), ("tell", 99, ("var", "v")), ("tell", 0, -10 ** 9),
            ("when", ("var", "v"), (("let", "w", ("var", "v")), ("set", "x", ("var", "w"))), (("let", "w", 2),)),
            ("let", "w", 3), ("make", "coin", ()), ("make", "coin", (("y", ("own", "seat")), ("x", 1))), ("drop", ""),
            ("each", "coin", "t", (("give", "t", "x", ("of", "t", "y")), ("drop", "t"))),
            ("each", "dot", "t", (("give", "t", "n", 1),)),
            ("first", "dot", "t", ("of", "t", "n"), (("drop", "t"),), (("let", "t", 1), ("tell", 1, ("var", "t")))),
        )
        self.assertIsNone(path_of(row))

    def test_right_expressions(self):
        ops = ("plus", "minus", "times", "over", "rest", "least", "most", "less", "same", "both", "any")
        right = [("own", "seat"), ("tick",), ("id",), ("not", 1), ("if", 1, 2, 3), ("count", "dot", "t", ("of", "t", "n")),
                 ("count", "coin", "t", ("meets", "t", -5)), 10 ** 9, -10 ** 9, 0]
        right += [("key", bit) for bit in range(6)] + [("draw", sides) for sides in (1, 1000)]
        for e in right + [(op, 1, ("tick",)) for op in ops]:
            self.assertIsNone(at_e(e), e)

    def test_wrong_statements(self):
        for piece in (5, (), None, True, [], "drop", ("own", "dx"), ("tick",), ("move",), ("for", "dot", ()), ([], 1), ({}, 1),
                      *JUNK):
            self.assertEqual(path_of((("drop", ""), piece, 5)), (1,), piece)
        for word in BAD_WORDS:
            self.assertEqual(path_of(((word, "dx", 1),)), (0,))
        right = [("set", "dx", 5), ("let", "v", 1), ("when", 1, (), ()), ("each", "dot", "t", ()), ("drop", ""),
                 ("first", "dot", "t", 1, (), ()), ("make", "dot", ()), ("tell", 1, 1)]
        for piece in right:
            self.assertIsNone(path_of((piece,)))
            for wrong in (piece + (1,), piece[:-1], list(piece), piece[:1]):
                self.assertEqual(path_of((wrong,)), (0,), wrong)

    def test_wrong_members_of_statements(self):
        for name in BAD_NAMES:
            wrong = [("set", name, 5), ("let", name, 5), ("each", name, "t", ()), ("each", "dot", name, ()),
                     ("first", name, "t", 1, (), ()), ("first", "dot", name, 1, (), ()), ("make", name, ()),
                     ("make", "dot", ((name, 1),))]
            wrong += [("drop", name)] * (name != "")
            for piece in wrong:
                self.assertEqual(path_of((piece,)), (0,), piece)
            for piece in (("give", "t", name, 1), ("give", name, "n", 1)):
                self.assertEqual(path_of((("each", "dot", "t", (piece,)),)), (0, 3, 0), piece)
        for piece in (("set", "n", 5), ("each", "elf", "t", ()), ("first", "elf", "t", 1, (), ()), ("make", "elf", ()),
                      ("make", "dot", (("x", 1),)), ("drop", "t"), ("give", "t", "n", 1), ("when", 1, (), None),
                      ("when", 1, None, ()), ("when", 1, [], ()), ("each", "dot", "t", []),
                      ("first", "dot", "t", 1, (), []), ("first", "dot", "t", 1, [], ())):
            self.assertEqual(path_of((piece,)), (0,), piece)
        for code in (-1, 100, *BAD_INTEGERS):
            self.assertEqual(path_of((("tell", code, 1),)), (0,))

    def test_pairs_of_make(self):
        for kind in ("elf", "", [], None, 5):
            self.assertEqual(path_of((("make", kind, (("x", 1),)),)), (0,), kind)
        for pairs in (None, [], [("x", 1)], "x", (("x",),), (("x", 1, 1),), (["x", 1],), (5,), (("x", 1), ("x", 2)), ((1, "x"),)):
            self.assertEqual(path_of((("make", "coin", pairs),)), (0,), pairs)
        self.assertEqual(path_of((("make", "coin", (("x", 1), ("y", None), ("x", 1))),)), (0,))
        self.assertEqual(path_of((("make", "coin", (("x", 1), ("y", None))),)), (0, 2, 1, 1))
        self.assertEqual(path_of((("make", "coin", (("x", ("not", True)), ("y", None))),)), (0, 2, 0, 1, 1))

    def test_wrong_expressions(self):
        wrong = [("own",), ("own", "n"), ("own", "dx", 1), ["own", "dx"], ("of", "t", "n"), ("var", "v"), ("tick", 1),
                 ("id", 1), ("plus", 1), ("plus", 1, 2, 3), ("not",), ("not", 1, 2), ("if", 1, 2), ("if", 1, 2, 3, 4),
                 ("count", "elf", "t", 1), ("count", "dot", "t"), ("count", "dot", "T", 1), ("meets", "t", 1),
                 ("draw",), ("key",), ("drop", ""), ("set", "dx", 1), 10 ** 9 + 1, -10 ** 9 - 1, ("var", ""), ("of", "", "dx"),
                 ("meets", "", 1), ([], 1), ({}, 1, 2)]
        wrong += [("key", bit) for bit in (-1, 6, *BAD_INTEGERS)] + [(word, 1, 1) for word in BAD_WORDS]
        wrong += [("draw", sides) for sides in (0, 1001, -1, *BAD_INTEGERS)]
        wrong += [("own", name) for name in BAD_NAMES] + [("var", name) for name in BAD_NAMES]
        wrong += [value for value in JUNK if value != -1 or isinstance(value, bool)]
        for e in wrong:
            self.assertEqual(at_e(e), (), e)

    def test_paths_within_each_piece(self):
        cases = [(("set", "x", None), (0, 2)), (("let", "v", None), (0, 2)), (("when", None, (), ()), (0, 1)),
                 (("when", 1, (("drop", ""), None), (None,)), (0, 2, 1)), (("when", 1, (), (None,)), (0, 3, 0)),
                 (("each", "dot", "t", (None,)), (0, 3, 0)), (("first", "dot", "t", None, (None,), ()), (0, 3)),
                 (("first", "dot", "t", 1, (None,), (None,)), (0, 4, 0)), (("tell", 1, None), (0, 2)),
                 (("first", "dot", "t", 1, (), (None,)), (0, 5, 0)),
                 (("each", "dot", "t", (("give", "t", "n", None),)), (0, 3, 0, 3))]
        for piece, path in cases:
            self.assertEqual(path_of((piece, None)), path, piece)
        for e, path in ((("plus", None, None), (1,)), (("plus", 1, None), (2,)), (("not", None), (1,)),
                        (("if", None, None, 1), (1,)), (("if", 1, None, None), (2,)), (("if", 1, 1, None), (3,)),
                        (("count", "dot", "t", None), (3,)), (("not", ("not", ("key", 6))), (1, 1))):
            self.assertEqual(at_e(e), path, e)
        self.assertEqual(path_of((("each", "coin", "t", (("tell", 1, ("meets", "t", None)),)),)), (0, 3, 0, 2, 2))

    def test_each_piece_is_looked_at_where_it_stands(self):
        dice = Dice(4)
        for _ in range(150):
            game = dice.game()
            at = dice.random.randrange(len(game.entries))
            paths = [path for path in walk(game.entries[at][2:], (2,), game) if path]
            if paths:
                path = dice.some(*paths)
                entries = game.entries[:at] + (spoilt(game.entries[at], path),) + game.entries[at + 1:]
                fault = game_fault(game.kinds, entries, game.start, arena=game.arena)
                self.assertEqual(fault, ("entries", at, path))


def walk(row, path, game):
    """The paths of all pieces of an entry that has a row, found by their words alone."""
    found = []
    for at, statement in enumerate(row[0] if row else ()):
        found += below(statement, path + (at,))
    return found


def below(piece, path):
    """The paths of a piece and of all within it."""
    found = [path]
    if not isinstance(piece, tuple):
        return found
    word = piece[0]
    rows = {"when": (2, 3), "each": (3,), "first": (4, 5)}.get(word, ())
    parts = {"set": (2,), "give": (3,), "let": (2,), "when": (1,), "first": (3,), "tell": (2,), "not": (1,),
             "if": (1, 2, 3), "count": (3,), "meets": (2,)}.get(word, ())
    if word in ("plus", "minus", "times", "over", "rest", "least", "most", "less", "same", "both", "any"):
        parts = (1, 2)
    for at in parts:
        found += below(piece[at], path + (at,))
    for at in rows:
        for k, statement in enumerate(piece[at]):
            found += below(statement, path + (at, k))
    if word == "make":
        for k, pair in enumerate(piece[2]):
            found += below(pair[1], path + (2, k, 1))
    return found


def spoilt(tree, path):
    """The tree with what is no piece at the path."""
    if not path:
        return ("wrong",)
    return tree[:path[0]] + (spoilt(tree[path[0]], path[1:]),) + tree[path[0] + 1:]


class NamesTest(unittest.TestCase):
    def test_let_is_known_behind_it_in_its_row(self):
        tell = ("tell", 1, ("var", "v"))
        self.assertEqual(path_of((tell, ("let", "v", 1))), (0, 2))
        self.assertEqual(path_of((("let", "v", ("var", "v")),)), (0, 2))
        self.assertIsNone(path_of((("let", "v", 1), ("when", ("var", "v"), (tell,), (tell,)), tell)))
        self.assertEqual(path_of((("when", 1, (("let", "v", 1), tell), (tell,)),)), (0, 3, 0, 2))
        self.assertEqual(path_of((("when", 1, (("let", "v", 1),), ()), tell)), (1, 2))

    def test_let_alone_makes_values_known(self):
        self.assertIsNone(path_of((("set", "x", 1), ("let", "x", 2))))
        self.assertEqual(path_of((("set", "x", 1), ("tell", 1, ("var", "x")))), (1, 2))
        self.assertEqual(path_of((("let", "x", 1, 1), ("tell", 1, ("var", "x")))), (0,))

    def test_nothing_is_made_known_twice(self):
        let = ("let", "v", 1)
        self.assertEqual(path_of((let, let)), (1,))
        self.assertEqual(path_of((let, ("when", 1, (let,), ()))), (1, 2, 0))
        self.assertEqual(path_of((let, ("each", "dot", "v", ()))), (1,))
        self.assertEqual(path_of((let, ("first", "dot", "v", 1, (), ()))), (1,))
        self.assertEqual(path_of((let, ("tell", 1, ("count", "dot", "v", 1)))), (1, 2))
        for word in (("each", "dot", "t"), ("first", "dot", "t", 1)):
            rest = ((),) * (word[0] == "first")
            self.assertEqual(path_of(((*word, (("let", "t", 1),), *rest),)), (0, len(word), 0))
            self.assertEqual(path_of(((*word, (("each", "dot", "t", ()),), *rest),)), (0, len(word), 0))
        self.assertEqual(path_of((("each", "dot", "t", ()), ("let", "t", 1), ("tell", 1, ("var", "t")))), None)

    def test_things_are_known_where_they_are_told(self):
        use = ("drop", "t")
        self.assertEqual(path_of((("each", "dot", "t", (use,)), use)), (1,))
        self.assertEqual(path_of((("first", "dot", "t", ("of", "t", "n"), (use,), (use,)),)), (0, 5, 0))
        self.assertEqual(path_of((("tell", 1, ("plus", ("count", "dot", "t", ("of", "t", "n")), ("of", "t", "n"))),)),
                         (0, 2, 2))
        self.assertIsNone(path_of((("each", "dot", "t", (("each", "dot", "u", (use, ("drop", "u"))),)),)))

    def test_values_are_no_things_and_things_no_values(self):
        self.assertEqual(at_e(("count", "dot", "t", ("var", "t"))), (3,))
        for piece in (("drop", "v"), ("give", "v", "x", 1), ("tell", 1, ("of", "v", "x")), ("tell", 1, ("meets", "v", 1))):
            path = (1, 2) if piece[0] == "tell" else (1,)
            self.assertEqual(path_of((("let", "v", 1), piece)), path)

    def test_fields_are_of_the_kind(self):
        self.assertEqual(path_of((("each", "dot", "t", (("give", "t", "x", 1),)),)), (0, 3, 0))
        self.assertEqual(at_e(("count", "coin", "t", ("of", "t", "seat"))), (3,))
        self.assertIsNone(at_e(("count", "hero", "t", ("of", "t", "seat")), "dot"))
        self.assertEqual(at_e(("own", "seat"), "coin"), ())
        self.assertEqual(path_of((("set", "x", 1),), "dot"), (0,))

    def test_meets_asks_both_kinds_for_bodies(self):
        for own in ("hero", "coin", "dot"):
            for kind in ("hero", "coin", "dot"):
                path = (3,) if "dot" in (own, kind) else None
                self.assertEqual(at_e(("count", kind, "t", ("meets", "t", 0)), own), path)

    def test_what_is_not_true(self):
        self.assertEqual(path_of((("let", "v", 1), ("let", "v", 2))), (1,))
        self.assertIsNone(path_of((("each", "dot", "t", (("give", "t", "n", 1),)),)))


class SizeTest(unittest.TestCase):
    def test_the_61st_piece(self):
        self.assertIsNone(at_e(nested(59)))
        self.assertEqual(at_e(nested(60)), (1,) * 59)
        self.assertEqual(at_e(nested(70)), (1,) * 59)
        drops = (("drop", ""),)
        self.assertIsNone(path_of(drops * 60))
        self.assertEqual(path_of(drops * 61), (60,))
        self.assertEqual(path_of(drops * 60 + (5,)), (60,))
        self.assertEqual(path_of((("when", 1, drops * 58, drops),)), (0, 3, 0))
        self.assertIsNone(fault_of(entries=(("for", "hero", drops * 60),) * 16))
        self.assertEqual(fault_of(entries=(("move",), ("for", "hero", drops * 61))), ("entries", 1, (2, 60)))

    def test_loops_within_loops(self):
        for third in (("each", "dot", "w", ()), ("first", "dot", "w", 1, (), ()), ("tell", 1, ("count", "dot", "w", 1))):
            more = (2,) if third[0] == "tell" else ()
            two = ("each", "dot", "u", (third,))
            self.assertIsNone(path_of((two,)))
            self.assertEqual(path_of((("each", "dot", "t", (two,)),)), (0, 3, 0, 3, 0) + more)
            self.assertEqual(path_of((("first", "dot", "t", 1, (), (two,)),)), (0, 5, 0, 3, 0) + more)
            self.assertEqual(path_of((("first", "dot", "t", 1, (two,), ()),)), (0, 4, 0, 3, 0) + more)
        e = ("count", "dot", "t", ("count", "dot", "u", 1))
        self.assertIsNone(at_e(e))
        self.assertEqual(at_e(("count", "dot", "w", e)), (3, 3))
        self.assertEqual(path_of((("first", "dot", "w", e, (), ()),)), (0, 3, 3))

    def test_work(self):
        cases = [((), 0), ((("drop", ""),), 12), ((("drop", ""),) * 60, 720), ((("each", "dot", "t", ()),), 12),
                 ((("each", "dot", "t", (("drop", "t"),)),), 156),
                 ((("each", "dot", "t", (("each", "dot", "u", (("drop", "u"),)), ("drop", "t"))),), 12 * (1 + 12 + 144 + 12)),
                 ((("first", "dot", "t", 5, (("drop", "t"),), (("drop", ""),)),), 12 * (1 + 3 * 12)),
                 ((("tell", 1, ("count", "dot", "t", ("not", 1))),), 12 * (2 + 24)),
                 ((("make", "dot", (("n", ("plus", 1, 2)),)),), 48)]
        for row, total in cases:
            game = Game(ALL, (("move",), ("for", "hero", row)), (), arena=(1, 1))
            self.assertEqual((work(game, 0), work(game, 1)), (0, total), row)

    def test_work_above_twenty_thousand(self):
        # Within two loops: 12 * 144 for each piece.
        def entry(many, more):
            inner = ("each", "dot", "u", (("drop", "u"),) * many)
            return ("for", "hero", (("each", "dot", "t", (inner,)),) + (("drop", ""),) * more)

        # 12 * (1 + 12 + 144 * 11) is 19164; with 69 pieces more, in two entries, it is 19992.
        drops = ("for", "hero", (("drop", ""),) * 9)
        self.assertIsNone(fault_of(entries=(entry(11, 40), ("for", "hero", (("drop", ""),) * 29))))
        self.assertEqual(fault_of(entries=(entry(11, 40), ("for", "hero", (("drop", ""),) * 30))), ("work",))
        self.assertEqual(fault_of(entries=(entry(11, 40), drops, drops, drops, drops)), ("work",))
        self.assertIsNone(fault_of(entries=(entry(6, 0),) * 1 + (drops,) * 15))
        self.assertEqual(fault_of(entries=(entry(6, 0),) * 2), ("work",))

    def test_work_of_just_twenty_thousand(self):
        # All works are multiples of 12, so 19992 is the greatest one that is let, 20004 the least one that is not.
        rows = [(("each", "dot", "t", (("drop", "t"),) * 57),)] * 2 + [(("drop", ""),) * 60] * 4
        total = 2 * 12 * (1 + 57 * 12) + 4 * 720
        self.assertEqual(total, 19320)
        for more, fault in ((56, None), (57, ("work",))):
            entries = tuple(("for", "hero", row) for row in rows + [(("drop", ""),) * more])
            self.assertEqual(fault_of(entries=entries), fault)


class GameTest(unittest.TestCase):
    def test_properties(self):
        game = Game(KINDS, ENTRIES, START, arena=(12, 6), seats=3, luck=77)
        told = (game.kinds, game.entries, game.start, game.arena, game.seats, game.luck, game.names)
        self.assertEqual(told, (KINDS, ENTRIES, START, (12, 6), 3, 77, ("hero", "coin")))
        self.assertEqual((COINS.seats, COINS.luck), (2, 0))

    def test_fields_and_bodies(self):
        game = Game(ALL, ENTRIES, START, arena=(12, 6))
        self.assertEqual(game.fields("hero"), ("x", "y", "dx", "dy", "seat"))
        self.assertEqual((game.fields("dot"), game.body("dot"), game.body("hero")), (("n",), None, (1, 1, True)))
        for value in ("elf", *JUNK):
            self.assertEqual(error_of(game.fields, value), name_error(value))
            self.assertEqual(error_of(game.body, value), name_error(value))

    def test_seats_and_luck_can_be_left_out(self):
        self.assertIsNone(game_fault(KINDS, ENTRIES, START, arena=(12, 6)))
        defaults = game_fault.__kwdefaults__
        self.assertEqual((defaults, Game.__init__.__kwdefaults__), ({"seats": 2, "luck": 0},) * 2)

    def test_equality(self):
        base = dict(kinds=KINDS, entries=ENTRIES, start=START, arena=(12, 6), seats=2, luck=0)

        def made(**more):
            told = {**base, **more}
            return Game(told.pop("kinds"), told.pop("entries"), told.pop("start"), **told)

        self.assertTrue(made() == COINS and not made() != COINS)
        for more in (dict(kinds=ALL), dict(entries=ENTRIES[:2]), dict(start=START[:2]), dict(arena=(12, 7)), dict(seats=3),
                     dict(luck=1)):
            self.assertTrue(made(**more) != COINS and not made(**more) == COINS)
        for value in JUNK:
            self.assertEqual(COINS == value, value is COINS)
        with self.assertRaises(TypeError):
            iter(COINS)

    def test_a_fault_is_no_game(self):
        for args, named in (((KINDS, ENTRIES, START), dict(arena=(0, 6))), ((KINDS, (), START), dict(arena=(12, 6))),
                            ((KINDS, ENTRIES, START), dict(arena=(12, 6), seats=5))):
            self.assertEqual(error_of(Game, *args, **named), ("InvalidGame",))
        for at in range(3):
            def call(value):
                args = [KINDS, ENTRIES, ()]
                args[at] = value
                return Game(*args, arena=(12, 6))
            refused_all(self, call, "InvalidGame", (12,) if at == 2 else ())
        for name in ("arena", "seats", "luck"):
            refused_all(self, lambda value: Game(KINDS, ENTRIES, START, **{"arena": (12, 6), name: value}), "InvalidGame")

    def test_work_refuses(self):
        refused_all(self, lambda value: work(value, 0), "InvalidGame", (24,))
        for value in (-1, 3, True, False, None, "0", 10 ** 60, (0,)):
            self.assertEqual(error_of(work, COINS, value), number_error(value))
            self.assertEqual(error_of(work, None, value), ("InvalidGame",))

    def test_deep_values_are_faults(self):
        self.assertEqual(path_of((deep(1, 20),)), (0,))
        self.assertEqual(at_e(deep(1, 20)), ())


if __name__ == "__main__":
    unittest.main()
