"""A tree whose parents alone are known, and what is asked of it, told by walks along them."""

from knotbits import answers
from tests.shapes import bits_by_kids, elders_and_self

# How many unlike blocks each question may ask for, by point 8.
MOST = {
    "place_of": 1, "depth_of": 1, "knot_at": 2, "above": 2, "beneath": 2, "beside": 3,
    "kids": 2, "kid": 3, "elder": 3,
}
OF_A_KNOT = ["place_of", "depth_of", "above", "beneath", "beside", "kids"]


class PlainTree:
    """Lists with a row for each knot, and for each place."""

    def __init__(self, parents):
        self.parents = list(parents)
        self.knots = len(parents)
        self.bits = bits_by_kids(parents)
        self.lines = [elders_and_self(parents, knot) for knot in range(self.knots)]
        self.depths = [len(line) - 1 for line in self.lines]
        self.children = [[] for _ in parents]
        self.many_beneath = [0] * self.knots
        for knot, line in enumerate(self.lines):
            if knot:
                self.children[parents[knot]].append(knot)
            for higher in line[1:]:
                self.many_beneath[higher] += 1
        # One came to all the knots ahead, and those of them that are no elders are done.
        self.places = [2 * knot - self.depths[knot] for knot in range(self.knots)]
        self.ends = [
            self.places[knot] + 2 * self.many_beneath[knot] + 1 for knot in range(self.knots)
        ]
        self.knots_at = [None] * (2 * self.knots)
        self.heights = [0] * (2 * self.knots + 1)
        for knot in range(self.knots):
            self.knots_at[self.places[knot]] = knot
            self.knots_at[self.ends[knot]] = knot
            self.heights[self.places[knot]] = self.depths[knot]
            self.heights[self.ends[knot]] = self.depths[knot] + 1

    def beside(self, knot):
        if knot == 0:
            return None
        later = [child for child in self.children[self.parents[knot]] if child > knot]
        return later[0] if later else None

    def elder(self, one, other):
        both = set(self.lines[one])
        return next(knot for knot in self.lines[other] if knot in both)

    def of_knots(self):
        """Each question of each knot, and of each place: name, arguments, answer."""
        for knot in range(self.knots):
            yield "place_of", (knot,), self.places[knot]
            yield "depth_of", (knot,), self.depths[knot]
            yield "above", (knot,), self.parents[knot]
            yield "beneath", (knot,), self.many_beneath[knot]
            yield "beside", (knot,), self.beside(knot)
            yield "kids", (knot,), len(self.children[knot])
            for number, child in enumerate(self.children[knot] + [None] * 3):
                yield "kid", (knot, number), child
        for place in range(2 * self.knots):
            yield "knot_at", (place,), self.knots_at[place]

    def of_pairs(self, step=1):
        """The question of each pair of knots, or of each so-manieth pair."""
        for at in range(0, self.knots * self.knots, step):
            one, other = divmod(at, self.knots)
            yield "elder", (one, other), self.elder(one, other)


def ask(name, book, blocks, arguments):
    return getattr(answers, name)(book, blocks, *arguments)
