"""The pieces of entries: their forms, and what is known where they stand."""

from settledplay.base.checks import is_name, is_within
from settledplay.base.luck import MAX_SIDES
from settledplay.base.numbers import OPS, is_number

# The sorts of the members behind the word of a statement.
STATEMENTS = {
    "set": ("own", "part"),
    "give": ("thing", "field", "part"),
    "let": ("new", "part"),
    "when": ("part", "row", "row"),
    "each": ("kind", "new", "row"),
    "first": ("kind", "new", "part", "row", "row"),
    "make": ("kind", "pairs"),
    "drop": ("lost",),
    "tell": ("code", "part"),
}
# The sorts of the members behind the word of an expression that is no operation.
EXPRESSIONS = {
    "own": ("own",),
    "of": ("thing", "field"),
    "var": ("let",),
    "key": ("bit",),
    "tick": (),
    "draw": ("sides",),
    "id": (),
    "not": ("part",),
    "if": ("part", "part", "part"),
    "count": ("kind", "new", "part"),
    "meets": ("body", "part"),
}
TWO_PARTS = ("part", "part")
LOOPS = ("each", "first", "count")
MOST_CODE = 99
# The index of the row of `first` that is done for no thing, and so does not know one.
ROW_FOR_NONE = 5
# What stands in the place of a kind for a name that `let` made known: no kind is called so.
LET = ""


class Around:
    """What is known where a piece stands: the kinds, the own kind, names, and within how many loops it is."""

    def __init__(self, kinds, kind, known, depth):
        self.kinds = kinds
        self.kind = kind
        self.known = known
        self.depth = depth

    def knowing(self, name, kind):
        """The same place, with a further name known."""
        known = dict(self.known)
        known[name] = kind
        return Around(self.kinds, self.kind, known, self.depth)

    def deeper(self):
        """The same names within one loop more."""
        return Around(self.kinds, self.kind, self.known, self.depth + 1)

    def kind_of(self, name):
        """The kind of the thing that is known by the name, None if none is."""
        if not is_name(name) or self.known.get(name, LET) == LET:
            return None
        return self.known[name]

    def has_field(self, kind, field):
        """Whether a kind, or None, has the field."""
        return kind is not None and is_name(field) and field in self.kinds[kind].places

    def has_body(self, kind):
        """Whether a kind, or None, has a body."""
        return kind is not None and self.kinds[kind].body is not None


class Site:
    """A piece and where it stands."""

    def __init__(self, path, piece, states, around):
        self.path = path
        self.piece = piece
        self.states = states
        self.around = around


def is_right(site):
    """Whether a piece has its form, apart from the pieces within it."""
    if not site.states and is_number(site.piece):
        return True
    sorts = sorts_of(site)
    if sorts is None:
        return False
    return all([is_member(site, site.piece[at], sort) for at, sort in enumerate(sorts, start=1)])


def sorts_of(site):
    """The sorts of the members of a piece, None for a piece without a form."""
    piece = site.piece
    if not isinstance(piece, tuple) or len(piece) == 0 or not isinstance(piece[0], str):
        return None
    if site.states:
        sorts = STATEMENTS.get(piece[0])
    elif piece[0] in OPS:
        sorts = TWO_PARTS
    else:
        sorts = EXPRESSIONS.get(piece[0])
    if sorts is None or len(piece) != len(sorts) + 1:
        return None
    return sorts


def is_member(site, member, sort):
    """Whether a member of a piece is of its sort."""
    around = site.around
    if sort == "part":
        return True
    if sort == "row":
        return isinstance(member, tuple)
    if sort == "code":
        return is_within(member, 0, MOST_CODE)
    if sort == "bit":
        return is_within(member, 0, 5)
    if sort == "sides":
        return is_within(member, 1, MAX_SIDES)
    if sort == "kind":
        return is_name(member) and member in around.kinds
    if sort == "own":
        return around.has_field(around.kind, member)
    if sort == "field":
        return around.has_field(around.kind_of(site.piece[1]), member)
    if sort == "pairs":
        return are_pairs(site, member)
    return is_known_right(around, member, sort)


def is_known_right(around, member, sort):
    """Whether a member that makes a name known, or uses one, is of its sort."""
    if sort == "new":
        return is_name(member) and member not in around.known
    if sort == "let":
        return is_name(member) and around.known.get(member) == LET
    if sort == "body":
        return around.has_body(around.kind) and around.has_body(around.kind_of(member))
    if sort == "lost" and member == "":
        return True
    return around.kind_of(member) is not None


def are_pairs(site, pairs):
    """Whether a member is a tuple of pairs of unlike fields of the kind to make, and of what is no matter here."""
    kind = site.piece[1]
    if not is_member(site, kind, "kind") or not isinstance(pairs, tuple):
        return False
    if not all([isinstance(pair, tuple) and len(pair) == 2 for pair in pairs]):
        return False
    if not all([site.around.has_field(kind, pair[0]) for pair in pairs]):
        return False
    return len({pair[0] for pair in pairs}) == len(pairs)


def sites_within(site):
    """The sites of the pieces that stand directly in a right piece, as they are written."""
    piece = site.piece
    if isinstance(piece, int):
        return []
    outer = inner = site.around
    if piece[0] in LOOPS:
        outer = site.around.deeper()
        inner = outer.knowing(piece[2], piece[1])
    found = []
    for at, sort in enumerate(sorts_of(site), start=1):
        path = (*site.path, at)
        if sort == "part":
            found.append(Site(path, piece[at], False, inner))
        elif sort == "row":
            found.extend(sites_of_row(path, piece[at], outer if at == ROW_FOR_NONE else inner))
        elif sort == "pairs":
            found.extend([Site((*path, k, 1), pair[1], False, inner) for k, pair in enumerate(piece[at])])
    return found


def sites_of_row(path, row, around):
    """The sites of the statements of a row; each `let` is known behind it."""
    found = []
    for at, piece in enumerate(row):
        found.append(Site((*path, at), piece, True, around))
        if is_let(piece):
            around = around.knowing(piece[1], LET)
    return found


def is_let(piece):
    """Whether a statement makes a name known; one that is wrong itself is found ahead of those behind it."""
    return isinstance(piece, tuple) and len(piece) == 3 and piece[0] == "let" and is_name(piece[1])
