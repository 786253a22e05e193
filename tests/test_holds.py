"""What holds over the whole program, on many inputs, and the answers beside the reference's."""

import itertools
import unittest

from reference import ADDED, Draw, edges_answered, flat, reference_fair, reference_share
from sharedots.desk import share


def drawn_inputs(seed, count):
    draw = Draw(seed)
    for _ in range(count):
        things = draw.things()
        yield draw.length(things), things


def small_things():
    for least, wish, most in itertools.combinations_with_replacement(range(3), 3):
        for grow, give in itertools.product((0, 1, 3), repeat=2):
            yield (least, wish, most, grow, give)


class Holds(unittest.TestCase):

    def test_all_filled_if_it_can_be(self):
        for length, things in drawn_inputs(1, 3000):
            answer = share(length, flat(things))
            shortest = sum(thing[0] if thing[4] else thing[1] for thing in things)
            longest = sum(thing[2] if thing[3] else thing[1] for thing in things)
            filled = max(shortest, min(length, longest))
            self.assertEqual(sum(answer[3:]), filled, (length, things))
            self.assertEqual(answer[:3], [1, ADDED + length - filled, len(things)], (length, things))

    def test_between_least_and_most(self):
        for length, things in drawn_inputs(2, 3000):
            for size, thing in zip(share(length, flat(things))[3:], things, strict=True):
                self.assertTrue(thing[0] <= size <= thing[2], (length, things))

    def test_less_than_a_dot_from_fair(self):
        for length, things in drawn_inputs(3, 2000):
            for size, fair in zip(share(length, flat(things))[3:], reference_fair(length, things), strict=True):
                self.assertLess(abs(size - fair), 1, (length, things))

    def test_steady(self):
        for length, things in drawn_inputs(4, 3000):
            self.check_one_dot_on(length, things)

    def test_steady_over_whole_runs_of_lengths(self):
        draw = Draw(5)
        for _ in range(60):
            things = [draw.thing(9) for _ in range(draw.below(7))]
            for length in range(sum(thing[2] for thing in things) + 3):
                self.check_one_dot_on(length, things)

    def check_one_dot_on(self, length, things):
        now = edges_answered(share(length, flat(things)))
        then = edges_answered(share(length + 1, flat(things)))
        for edge, moved in zip(now, then, strict=True):
            self.assertIn(moved - edge, (0, 1), (length, things))


class BesideTheReference(unittest.TestCase):

    def test_drawn(self):
        for length, things in drawn_inputs(6, 3000):
            self.assertEqual(share(length, flat(things)), reference_share(length, things), (length, things))

    def test_all_small_pairs(self):
        for pair in itertools.product(small_things(), repeat=2):
            for length in range(6):
                self.assertEqual(share(length, flat(pair)), reference_share(length, pair), (length, pair))

    def test_reference_keeps_to_the_words(self):
        """The reference's fair lengths are what the document says, with one t for all."""
        for length, things in drawn_inputs(7, 1000):
            fair = reference_fair(length, things)
            wishes = sum(thing[1] for thing in things)
            sign, end, weight = (1, 2, 3) if wishes < length else (-1, 0, 4)
            moved = [sign * (one - thing[1]) for one, thing in zip(fair, things)]
            open_ones = [(by, thing) for by, thing in zip(moved, things) if by < sign * (thing[end] - thing[1])]
            steps = {by / thing[weight] for by, thing in open_ones if thing[weight]}
            self.assertLessEqual(len(steps), 1, (length, things))
            for by, thing in zip(moved, things):
                self.assertTrue(0 <= by <= sign * (thing[end] - thing[1]))
                self.assertTrue(by == 0 or thing[weight] > 0)
                self.assertTrue(not steps or by <= max(steps) * thing[weight])
            self.assertTrue(sum(fair) == length or not steps, (length, things))


if __name__ == "__main__":
    unittest.main()
