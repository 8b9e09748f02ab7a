"""The form of the package's code: the part of the language that it keeps to, and the shape of its interface.

This is a net with wide meshes: it finds what breaks a rule plainly.
"""

import ast
import builtins
import importlib
import inspect
import os
import unittest

ROOT = os.path.join(os.path.dirname(os.path.dirname(os.path.abspath(__file__))), "settledplay")
BUILTINS = set("""len range enumerate zip min max sum abs sorted reversed int str bool list tuple dict set isinstance ord repr
any all divmod iter property classmethod ValueError KeyError IndexError LookupError ArithmeticError OverflowError TypeError
NotImplemented""".split())
METHODS = set("""append clear copy count endswith extend find get index insert isalnum isalpha isdigit islower isspace isupper
items join keys ljust lower lstrip partition pop remove replace reverse rfind rjust rpartition rsplit rstrip setdefault split
splitlines startswith strip update upper values zfill bit_length isascii isprintable removeprefix removesuffix""".split())
SPECIAL = set("__init__ __eq__ __repr__ __str__ __len__ __iter__ __contains__".split())
BARRED = set("""register mro elements open input law version_info with_traceback add_note id type dir eval exec exit gc getattr
hasattr globals help locals os quit setattr super sys vars compile breakpoint _record _outside _cold _written_out""".split())
BARRED_WORDS = ("type", "typing", "enum", "Enum", "Flag", "Generic", "Protocol", "ABC", "namedtuple", "NamedTuple", "dataclass")
STATEMENTS = (ast.Assign, ast.AugAssign, ast.If, ast.While, ast.For, ast.Return, ast.Break, ast.Continue, ast.Pass, ast.Raise,
              ast.Expr, ast.FunctionDef, ast.Delete, ast.Try)
EXPRESSIONS = (ast.Constant, ast.Name, ast.Attribute, ast.Call, ast.BoolOp, ast.BinOp, ast.UnaryOp, ast.Compare, ast.IfExp,
               ast.Tuple, ast.List, ast.Dict, ast.Subscript, ast.Slice, ast.Starred, ast.ListComp, ast.DictComp, ast.SetComp,
               ast.JoinedStr, ast.FormattedValue, ast.Yield)

# The interface: modules, functions with their parameters, classes with their methods, constants.
INTERFACE = {
    "errors": ("", "InvalidText InvalidLuck InvalidWorld InvalidGame InvalidPlace InvalidRecord InvalidWord InvalidRow InvalidSetup"
                   " InvalidLetter InvalidDisk InvalidBox InvalidTape InvalidStanding InvalidAct InvalidPaper InvalidOperation"
                   " ParseError InvalidNumber UnknownName TooMany Refused PlayError", ""),
    "base.numbers": ("is_number/1 clamped/1 worked/3", "", "MOST OPS"),
    "base.luck": ("is_luck/1 next_luck/1 luck_ahead/1 luck_after/2 luck_before/2 lucks_between/2 stirred/1 unstirred/1"
                  " spot_number/4 turn_of/4 drawn/5", "", "MODULUS FACTOR SUMMAND STILL MAX_SIDES"),
    "world.worlds": ("made/3 dropped/2 changed/4 first_world/1 is_world_of/2 value_of/4 world_text/1 read_world/1",
                     "World.ids World.kind_of World.numbers World.__contains__ World.__len__ World.__iter__ World.__eq__"
                     " World.__str__", ""),
    "rules.forms": ("game_fault/3 work/2", "Game.fields Game.body Game.__eq__ Game.__init__",
                    "MAX_SIZE MAX_WITHIN MAX_THINGS MAX_WORK"),
    "rules.runs": ("value_at/4 run/5 is_record/4 has_same_reads/4 put_on/3", "", ""),
    "arena.boxes": ("are_meeting/2 reach/5 reach_by_units/5 barrier/5 moved_box/5 box_of/3 solid_around/3 moved_thing/3"
                    " move_all/2 meeting_pairs/2", "", "SIDES MOST_UNITS"),
    "play.step": ("step/3 next_world/3 is_next/4 plain/2 plain_worlds/2 is_joint/2 is_row/2", "", ""),
    "base.texts": ("is_plain/1 text_of/1 value_of/1 framed/1 parted/1", "", "MOST_TEXT MOST_LONG MOST_DEEP"),
    "play.again": ("again/4 again_row/4 unlike_places/5 changed_places/2", "", ""),
    "keep.parts": ("is_difference/1 difference/2 applied/2 size/1", "", ""),
    "keep.ring": ("", "Ring.put Ring.world Ring.work Ring.back_to Ring.from_tick Ring.__contains__ Ring.__len__ Ring.__eq__", ""),
    "play.keys": ("is_row/2 heard/1 stay/3 guess/3 used/5 joined/4 first_change/6", "Setup.__init__ Setup.__eq__",
                  "AWAY MOST_WORD FILLED MAX_WINDOW MAX_DELAY"),
    "play.timeline": ("viewed/5", "Timeline.used Timeline.world_at Timeline.effects_at Timeline.pressed Timeline.advanced"
                                  " Timeline.told Timeline.__eq__ Timeline.__str__", ""),
    "net.letters": ("is_letter/1 goal/1 letter_text/1 read_letter/1", "",
                    "HOST MOST_SEAT MOST_WORDS MOST_STRETCH MOST_PIECES MOST_PIECE"),
    "seat.host": ("is_filled/4 is_silent/3", "Host.of_row Host.beat Host.made_sure Host.heard Host.mail Host.__eq__", ""),
    "disk.book": ("each_fall/1 record_text/2 read_record/1 with_tick/3 read_book/2 is_left_by/2",
                  "Disk.written Disk.made_sure Disk.fallen Disk.__eq__ Disk.__len__", "MAX_BLOCK"),
    "seat.player": ("keys_letter/3", "Player.come Player.go Player.beat Player.heard Player.letter Player.__eq__", ""),
    "seat.joining": ("pieces_of/2 offer/3 gathered/3", "Gathering.heard Gathering.is_whole Gathering.world Gathering.begun Gathering.__eq__"
                                                       " Gathering.__len__", "PIECE"),
    "match.match": ("is_act/2 run/2 each_standing/2 first_fault/1 is_sound/1",
                    "Standing.line Standing.view Standing.ground Standing.after Standing.__eq__ Standing.__str__", "MAX_ACTS"),
    "match.effects": ("effects_of/2 tellings/2 shown_effects/1 is_lot/1 effect_change/2 changed/3",
                      "Ear.heard Ear.__len__ Ear.__eq__ Ear.__str__", ""),
    "tape.tapes": ("tape_text/1 judged/1 tape_of/1 first_unlike/2 worlds_part/2",
                   "Tape.world Tape.until Tape.__len__ Tape.__eq__ Tape.__str__ Seeker.world Seeker.work", "MOST_TICKS WORDS_A_FRAME"),
    "check.prints": ("text_print/1 world_print/1 unlike_parts/2 first_stray/3 stray_paper/3 is_stray_paper/4 is_print_paper/3 halved/2", "",
                     "PRINT_BASE PRINT_MODULUS HEAD"),
    "match.bounds": ("even_schedule/3 even_row/3 does_never_wait/2 even_depths/2 calm_round/1 calm_goal/1 calm_schedule/1 calm_bound/1", "",
                     "MAX_LATE"),
    "net.bag": ("judged_handing/2", "Bag.sent Bag.sent_all Bag.letter Bag.to Bag.__len__ Bag.__eq__ Bag.__str__", ""),
}


def files():
    """The paths of all files of the package, without what Python keeps there for itself."""
    for folder, folders, names in os.walk(ROOT):
        if "__pycache__" in folders:
            folders.remove("__pycache__")
        for name in sorted(names):
            yield os.path.join(folder, name)


def module_of(path):
    """The name of the module of a file."""
    name = os.path.relpath(path, os.path.dirname(ROOT))[:-len(".py")].replace(os.sep, ".")
    return name.removesuffix(".__init__")


def told(path):
    with open(path, encoding="ascii") as file:
        return file.read()


TREES = {path: ast.parse(told(path)) for path in files()}
NODES = [(path, node) for path, tree in TREES.items() for node in ast.walk(tree)]
OWN_METHODS = {node.name for _, cls in NODES if isinstance(cls, ast.ClassDef) for node in cls.body
               if isinstance(node, ast.FunctionDef)}


class LanguageTest(unittest.TestCase):
    def none_of(self, rule, found):
        self.assertEqual([f"{os.path.relpath(path, ROOT)}:{line}" for path, line in found], [], rule)

    def where(self, rule, test):
        self.none_of(rule, [(path, getattr(node, "lineno", 0)) for path, node in NODES if test(node)])

    def test_files(self):
        for path in files():
            self.assertTrue(path.endswith(".py"), f"L1 {path}")
            self.assertTrue(os.path.exists(os.path.join(os.path.dirname(path), "__init__.py")), f"L14 {path}")
            self.assertNotIn(os.path.basename(path)[:-3], dir(builtins), f"L14 {path}")
        self.assertLess(len(TREES), 100)

    def test_characters_and_sizes(self):
        for path in TREES:
            lines = told(path).split("\n")
            self.assertLessEqual(len(lines), 399, f"L10 {path}")
            self.none_of("L10 lines", [(path, at + 1) for at, line in enumerate(lines) if len(line) > 120])
            self.none_of("L14 characters", [(path, at + 1) for at, line in enumerate(lines)
                                            if not all(" " <= sign <= "~" for sign in line)])
        self.where("L10 functions", lambda n: isinstance(n, ast.FunctionDef) and n.end_lineno - n.lineno >= 40)

    def test_imports(self):
        own = {module_of(path): tree for path, tree in TREES.items()}
        reached = {name: [] for name in own}
        for path, node in NODES:
            self.assertNotIsInstance(node, ast.Import, f"L2 {path}")
            if isinstance(node, ast.ImportFrom):
                self.assertEqual(node.level, 0, f"L2 {path}")
                self.assertIn(node, TREES[path].body, f"L2 {path}")
                reached[module_of(path)].append(node.module)
                names = [name for statement in own[node.module].body for name in bound(statement)]
                for alias in node.names:
                    self.assertTrue(alias.name in names and alias.asname is None, f"L16 {path} {alias.name}")
                    used = [n for n in ast.walk(TREES[path]) if isinstance(n, ast.Name) and n.id == alias.name]
                    self.assertTrue(used, f"{path} imports {alias.name} for nothing")
        for name in own:
            seen, waiting = set(), list(reached[name])
            while waiting:
                other = waiting.pop()
                if other not in seen:
                    seen.add(other)
                    waiting += reached[other]
            self.assertNotIn(name, seen, "L16")

    def test_module_level(self):
        for path, tree in TREES.items():
            names = [name for node in tree.body for name in bound(node)]
            names += [alias.name for node in tree.body if isinstance(node, ast.ImportFrom) for alias in node.names]
            self.assertEqual(len(names), len(set(names)), f"L15 {path}")
            for node in tree.body:
                docstring = isinstance(node, ast.Expr) and isinstance(node.value, ast.Constant)
                plain = isinstance(node, ast.Assign) and is_plain(node.value)
                self.assertTrue(docstring or plain or isinstance(node, (ast.ImportFrom, ast.FunctionDef, ast.ClassDef)),
                                f"L3 {path}:{node.lineno}")

    def test_statements_and_expressions(self):
        others = (ast.stmt, ast.expr)
        let = STATEMENTS + EXPRESSIONS + (ast.ClassDef, ast.ImportFrom)
        self.where("L6, L7", lambda n: isinstance(n, others) and not isinstance(n, let))
        self.where("L4, L5 decorators", lambda n: [part for part in getattr(n, "decorator_list", [])
                                                   if not isinstance(part, ast.Name) or part.id not in ("property", "classmethod")])
        self.where("L19 handlers", lambda n: isinstance(n, ast.ExceptHandler)
                   and (not isinstance(n.type, ast.Name) or n.type.id in dir(builtins)))
        self.where("L7 floats", lambda n: isinstance(n, ast.Constant) and isinstance(n.value, (float, complex, bytes)))
        self.where("L7 division", lambda n: isinstance(n, (ast.Div, ast.MatMult)))
        self.where("L20", lambda n: isinstance(n, ast.Compare) and isinstance(n.ops[0], (ast.Is, ast.IsNot))
                   and not isinstance(n.comparators[0], ast.Constant))
        self.where("L27 exponents", lambda n: isinstance(n, ast.BinOp) and isinstance(n.op, ast.Pow)
                   and not (isinstance(n.right, ast.Constant) and 0 <= n.right.value <= 64))
        self.where("L27 strings", lambda n: isinstance(n, ast.Constant) and isinstance(n.value, str) and "%" in n.value)
        self.where("L21 annotations", lambda n: getattr(n, "annotation", None) or getattr(n, "returns", None))

    def test_names(self):
        barred = BARRED | set(dir(builtins))
        for path, tree in TREES.items():
            taken = {alias.name for node in tree.body if isinstance(node, ast.ImportFrom) for alias in node.names}
            taken |= {node.name for node in tree.body if isinstance(node, ast.ClassDef)}
            for node in ast.walk(tree):
                for name in given(node):
                    self.assertNotIn(name, barred, f"L8, L15, L17 {path}:{node.lineno}")
                    self.assertNotIn(name, taken if not isinstance(node, ast.ClassDef) else (), f"L15 {path}:{node.lineno}")
                    self.assertFalse(name.startswith("__"), f"L8 {path}:{node.lineno}")
            words = [n.value for n in ast.walk(tree) if isinstance(n, ast.Constant) and isinstance(n.value, str)]
            names = [n.id for n in ast.walk(tree) if isinstance(n, ast.Name)] + [n.attr for n in ast.walk(tree) if isinstance(n, ast.Attribute)]
            docstrings = [ast.get_docstring(n, clean=False) for n in ast.walk(tree)
                          if isinstance(n, (ast.Module, ast.FunctionDef, ast.ClassDef))]
            for word in [word for word in words if word not in docstrings] + names:
                self.assertFalse(set(word.replace(".", " ").split()) & set(BARRED_WORDS), f"L17 {path} {word}")

    def test_calls(self):
        own = {name for tree in TREES.values() for node in tree.body for name in bound(node)}
        for path, node in NODES:
            if not isinstance(node, ast.Call):
                continue
            if isinstance(node.func, ast.Attribute):
                self.assertIn(node.func.attr, METHODS | OWN_METHODS, f"L25 {path}:{node.lineno}")
            elif isinstance(node.func, ast.Name) and node.func.id in dir(builtins):
                self.assertIn(node.func.id, BUILTINS, f"L8 {path}:{node.lineno}")
            else:
                self.assertIsInstance(node.func, ast.Name, f"{path}:{node.lineno}")
                self.assertIn(node.func.id, own | {"action", "cls"}, f"{path}:{node.lineno}")

    def test_properties(self):
        """An attribute that some class assigns has a name that no class has as a property without a setter."""
        read = names_of_properties(TREES.values())
        self.assertTrue({"own", "waiting", "marks", "offers", "pieces"} <= read)
        self.none_of("L5 properties", [(path, line) for path, tree in TREES.items() for line in assigned_in(tree, read)])
        methods = {name for _, cls in NODES if isinstance(cls, ast.ClassDef) for name in plain_methods(cls)}
        self.assertFalse(read & (methods | METHODS), "L5 properties")

    def test_what_assigns_a_property_is_found(self):
        one = ast.parse("class One:\n    @property\n    def own(self):\n        return 1\n")
        with_setter = "class Two:\n    @property\n    def own(self):\n        return 1\n    @own.setter\n    def own(self, value):\n        pass\n"
        self.assertEqual(names_of_properties([one]), {"own"})
        self.assertEqual(names_of_properties([ast.parse(with_setter)]), set())
        # It needs a setter in each class that has it.
        self.assertEqual(names_of_properties([one, ast.parse(with_setter)]), {"own"})
        for line in ("self.own = 1", "self.own += 1", "box.x, (y, box.own) = rows", "for box.own in rows: pass", "del box.own", "setattr(box, 'own', 1)", "a = box.own = 1",
                     "box.own: int = 5"):
            self.assertEqual(assigned_in(ast.parse("pass\n" + line), {"own"}), [2], line)
        for line in ("own = self.own", "self.owns = 1", "box.own[1] = 2", "box.own.x = 2", "box(own=1)", "getattr(box, 'own')"):
            self.assertEqual(assigned_in(ast.parse(line), {"own"}), [], line)

    def test_methods(self):
        """No method is read off a class by name; what is compared, measured or shown assigns nothing."""
        own = {node.name for _, node in NODES if isinstance(node, ast.ClassDef)}
        self.where("L18", lambda n: isinstance(n, ast.Attribute) and isinstance(n.value, ast.Name) and n.value.id in own | {"cls"})
        still = [(path, part) for path, node in NODES if isinstance(node, ast.FunctionDef) and node.name in SPECIAL - {"__init__"}
                 for part in ast.walk(node)]
        self.none_of("L28", [(path, part.lineno) for path, part in still if isinstance(part, (ast.Assign, ast.AugAssign, ast.Delete))])
        # An attribute does not have the name of a method of a builtin value.
        barred = set(dir(str)) | set(dir(list)) | set(dir(dict)) | set(dir(int)) | set(dir(set)) | set(dir(bytes))
        self.where("L26", lambda n: isinstance(n, ast.Attribute) and isinstance(n.ctx, ast.Store) and n.attr in barred)
        decorated = [node.name for _, node in NODES if isinstance(node, ast.FunctionDef) and node.decorator_list]
        stored = {n.attr for _, n in NODES if isinstance(n, ast.Attribute) and isinstance(n.ctx, ast.Store)}
        self.assertFalse(set(decorated) & stored, "L5")

    def test_classes(self):
        stored = {node.attr for _, node in NODES if isinstance(node, ast.Attribute) and isinstance(node.ctx, ast.Store)}
        for path, node in NODES:
            if isinstance(node, ast.ClassDef):
                names = [part.name for part in node.body if isinstance(part, ast.FunctionDef)]
                self.assertEqual(len(names), len(set(names)), f"L18 {path}")
                for name in names:
                    self.assertTrue(not name.startswith("__") or name in SPECIAL, f"L5 {path} {name}")
                mine = {n.attr for n in ast.walk(node) if isinstance(n, ast.Attribute) and isinstance(n.ctx, ast.Store)}
                self.assertFalse(mine & set(names), f"L18 {path}")
            if isinstance(node, ast.Attribute) and isinstance(node.ctx, ast.Load):
                self.assertIn(node.attr, stored | OWN_METHODS | METHODS, f"L18 {path}:{node.lineno}")


def names_of_properties(trees):
    """The names that some class has as a property without a setter."""
    found = set()
    for tree in trees:
        for cls in [node for node in ast.walk(tree) if isinstance(node, ast.ClassDef)]:
            over = [(part.name, ast.unparse(told)) for part in cls.body if isinstance(part, ast.FunctionDef) for told in part.decorator_list]
            found |= {name for name, told in over if told == "property" and (name, name + ".setter") not in over}
    return found


def assigned_in(tree, names):
    """The lines in which an attribute with one of the names is assigned."""
    found = []
    for node in ast.walk(tree):
        if isinstance(node, ast.Attribute) and not isinstance(node.ctx, ast.Load) and node.attr in names:
            found.append(node.lineno)
        if isinstance(node, ast.Call) and isinstance(node.func, ast.Name) and node.func.id == "setattr" and node.args[1].value in names:
            found.append(node.lineno)
    return found


def plain_methods(cls):
    """The names of the methods of a class that are no properties."""
    return [part.name for part in cls.body if isinstance(part, ast.FunctionDef)
            and not any(isinstance(over, ast.Name) and over.id == "property" for over in part.decorator_list)]


def is_plain(value):
    """Whether an expression at module level is of plain values and functions."""
    parts = (ast.Constant, ast.Tuple, ast.List, ast.Dict, ast.Name, ast.UnaryOp, ast.USub, ast.Load)
    return all(isinstance(node, parts) for node in ast.walk(value))


def bound(node):
    """The names that a statement at module level binds, imports apart."""
    if isinstance(node, (ast.FunctionDef, ast.ClassDef)):
        return [node.name]
    return [target.id for target in node.targets] if isinstance(node, ast.Assign) else []


def given(node):
    """The names that a node gives to functions, classes, parameters or variables."""
    if isinstance(node, ast.FunctionDef):
        return [] if node.name in SPECIAL else [node.name]
    if isinstance(node, ast.ClassDef):
        return [node.name]
    if isinstance(node, ast.arg):
        return [node.arg]
    return [node.id] if isinstance(node, ast.Name) and isinstance(node.ctx, ast.Store) else []


def found(path):
    """The function, class or method with a path."""
    folder, file, *names = path.split(".")
    value = importlib.import_module(f"settledplay.{folder}.{file}")
    for name in names:
        value = getattr(value, name)
    return value


class InterfaceTest(unittest.TestCase):
    def test_all_is_there_and_defined_in_its_file(self):
        for name, (functions, classes, constants) in INTERFACE.items():
            module = importlib.import_module("settledplay." + name)
            for word in functions.split():
                function, many = word.split("/")
                value = getattr(module, function)
                self.assertEqual(value.__module__, module.__name__, word)
                kinds = [parameter.kind for parameter in inspect.signature(value).parameters.values()]
                self.assertEqual(kinds.count(inspect.Parameter.POSITIONAL_OR_KEYWORD), int(many), word)
            for word in classes.split():
                cls, _, method = word.partition(".")
                self.assertEqual(getattr(module, cls).__module__, module.__name__, word)
                self.assertTrue(not method or method in vars(getattr(module, cls)), word)
            for word in constants.split():
                self.assertTrue(hasattr(module, word), word)

    def test_keywords(self):
        told = {"rules.forms.Game": "arena seats=2 luck=0", "rules.forms.game_fault": "arena seats=2 luck=0", "arena.boxes.are_meeting": "grown=0",
                "keep.ring.Ring": "spacing=2", "match.effects.tellings": "first=0", "tape.tapes.Seeker": "spacing=10",
                "play.keys.Setup": "window=4 delay=2 spacing=2 patience=3 silence=6 starters=None lookers=0 guesses=None"}
        for path, names in told.items():
            module, _, name = path.rpartition(".")
            function = getattr(importlib.import_module("settledplay." + module), name)
            found = [parameter for parameter in inspect.signature(function).parameters.values() if parameter.kind == inspect.Parameter.KEYWORD_ONLY]
            self.assertEqual([str(parameter) for parameter in found], names.split(), path)

    def test_defaults_of_others(self):
        for path, names in (("play.timeline.Timeline", ["setup", "seat", "world=None"]), ("net.bag.Bag", ["letters=()"]),
                            ("disk.book.Disk", ["blocks=()", "sure=0"]), ("match.effects.Ear", []), ("seat.host.Host", ["setup"]),
                            ("seat.host.Host.of_row", ["setup", "row"])):
            function = found(path)
            self.assertEqual([str(parameter) for parameter in inspect.signature(function).parameters.values()], names)


if __name__ == "__main__":
    unittest.main()
