"""Trees to test with, and slow reckonings that go other ways than the program."""

import random

# Nothing in here is a number, though some would pass for nought or one.
NO_NUMBERS = [None, True, False, "", "0", "1", "a", [], [0], [None], (), (0,), {}, {0: 0}]


def path(knots):
    return [None] + list(range(knots - 1))


def star(knots):
    return [None] + [0] * (knots - 1)


def comb(knots):
    """A path along the even knots, each of which has an odd leaf first."""
    parents = [None]
    for knot in range(1, knots):
        parents.append(knot - 1 if knot % 2 else max(knot - 2, 0))
    return parents


def broad(knots, many=4):
    """A tree in which each knot gets so many children, level by level, while knots are left."""
    inner = [[] for _ in range(knots)]
    for knot in range(1, knots):
        inner[(knot - 1) // many].append(knot)
    parents = []

    def go_down(knot, parent):
        number = len(parents)
        parents.append(parent)
        for child in inner[knot]:
            go_down(child, number)

    go_down(0, None)
    return parents


def broom(knots):
    """A path, and as many leaves again at its foot."""
    handle = max(knots // 2, 1)
    return path(handle) + [handle - 1] * (knots - handle)


def hand(knots, finger=5):
    """Paths of a few knots each, all beneath the knot nought."""
    return [None] + [0 if knot % finger == 1 else knot - 1 for knot in range(1, knots)]


def elders_and_self(parents, knot):
    """The knot, its parent, that one's parent, and so on."""
    line = []
    while knot is not None:
        line.append(knot)
        knot = parents[knot]
    return line


def random_tree(knots, seed, deep=50):
    """A tree of so many knots; `deep` in 100 of them go beneath the knot ahead."""
    chance = random.Random(seed)
    parents = [None]
    # Beneath the root first, then down to the knot ahead.
    line = [0]
    for knot in range(1, knots):
        if chance.randrange(100) >= deep:
            line = line[:chance.randrange(len(line)) + 1]
        parents.append(line[-1])
        line.append(knot)
    return parents


def every_tree(knots):
    """Each tree of so many knots, straight from the words of point 2."""
    trees = [[None]]
    for knot in range(1, knots):
        trees = [
            tree + [parent] for tree in trees for parent in elders_and_self(tree, knot - 1)
        ]
    return trees


def asked_trees(knots):
    """Trees of so many knots of each shape, with names."""
    return [
        ("path", path(knots)), ("star", star(knots)), ("comb", comb(knots)),
        ("broom", broom(knots)), ("hand", hand(knots)), ("two each", broad(knots, 2)),
        ("broad", broad(knots, 6)), ("deep by chance", random_tree(knots, 11, 85)),
        ("by chance", random_tree(knots, 12, 50)), ("broad by chance", random_tree(knots, 13, 15)),
    ]


def some_trees():
    trees = [tree for knots in range(1, 7) for tree in every_tree(knots)]
    for knots in (7, 31, 160, 161, 1000, 1999, 2000):
        trees += [path(knots), star(knots), comb(knots)]
        trees += [random_tree(knots, seed, deep) for seed, deep in ((1, 10), (2, 50), (3, 90))]
    return trees


def bits_by_kids(parents):
    """The bits, put together from the bottom: a one, the kids' bits, a nought."""
    inner = [[] for _ in parents]
    for knot in reversed(range(len(parents))):
        text = "1" + "".join(reversed(inner[knot])) + "0"
        if knot == 0:
            return text
        inner[parents[knot]].append(text)


def parents_by_heights(bits):
    """The parents: of each `1` the last one ahead that is lower by one."""
    parents = []
    height = 0
    last = {}
    for bit in bits:
        if bit == "1":
            last[height] = len(parents)
            parents.append(last.get(height - 1))
            height += 1
        else:
            height -= 1
    return parents


def is_balanced(bits):
    """Whether the text of `0` and `1` vanishes as `10` is struck out again and again."""
    while "10" in bits:
        bits = bits.replace("10", "")
    return bits == ""


def is_one_trees_bits(bits):
    return bits[:1] == "1" and bits[-1:] == "0" and is_balanced(bits[1:-1])
