"""What the document says of fair lengths, written anew with fractions, and inputs drawn for the tests."""

from fractions import Fraction

ADDED = 1073741824


def flat(things):
    return [number for thing in things for number in thing]


def reference_fair(length, things):
    """The fair lengths: t is looked for among the places where one is full, not by taking full ones out."""
    wishes = sum(thing[1] for thing in things)
    if wishes == length:
        return [Fraction(thing[1]) for thing in things]
    sign = 1 if wishes < length else -1
    end, weight = (2, 3) if sign == 1 else (0, 4)

    def at(t):
        return [min(thing[1] + t * thing[weight], Fraction(thing[end])) if sign == 1
                else max(thing[1] - t * thing[weight], Fraction(thing[end])) for thing in things]

    stops = sorted({Fraction(abs(thing[end] - thing[1]), thing[weight]) for thing in things if thing[weight]})
    before = Fraction(0)
    for stop in stops:
        if sign * (sum(at(stop)) - length) >= 0:
            low, high = sum(at(before)), sum(at(stop))
            return at(before + (stop - before) * (length - low) / (high - low))
        before = stop
    return [Fraction(thing[end] if thing[weight] else thing[1]) for thing in things]


def reference_share(length, things):
    together = Fraction(0)
    edges = [0]
    for fair in reference_fair(length, things):
        together += fair
        edges.append(together.numerator // together.denominator)
    sizes = [edges[k + 1] - edges[k] for k in range(len(things))]
    return [1, length - edges[-1] + ADDED, len(things)] + sizes


def edges_answered(answer):
    """The edges, as the sizes of an answer that isn't a refusal tell them."""
    edges = [0]
    for size in answer[3:]:
        edges.append(edges[-1] + size)
    return edges


class Draw:
    """Numbers that look drawn, the same ones on every run and every Python."""

    def __init__(self, seed):
        self.state = seed

    def below(self, end):
        self.state = (self.state * 6364136223846793005 + 1442695040888963407) % 2 ** 64
        return (self.state >> 33) % end

    def one_of(self, values):
        return values[self.below(len(values))]

    def weight(self):
        return self.one_of([0, 1, 1, 2, 3, 255, self.below(256)])

    def thing(self, greatest):
        least, wish, most = sorted(self.below(greatest + 1) for _ in range(3))
        kind = self.below(8)
        if kind == 0:
            most = wish
        elif kind == 1:
            least = wish
        elif kind == 2:
            least, most = 0, greatest
        return (least, wish, most, self.weight(), self.weight())

    def things(self):
        count = self.one_of([0, 1, 2, 3, 3, 4, 5, 8, 13, 64])
        greatest = self.one_of([1, 3, 10, 100, 5000, 65535])
        return [self.thing(greatest) for _ in range(count)]

    def length(self, things):
        """A length about where what is asked of the things changes, or between."""
        sums = [sum(thing[k] for thing in things) for k in range(3)]
        kept_down = sum(thing[0] if thing[4] else thing[1] for thing in things)
        kept_up = sum(thing[2] if thing[3] else thing[1] for thing in things)
        near = self.one_of(sums + [kept_down, kept_up]) + self.below(5) - 2
        length = self.one_of([near, self.below(sums[2] + 3), self.below(sums[1] + 1)])
        return max(0, min(length, 4194303))
