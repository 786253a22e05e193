"""Promise 1 on inputs whose whole answer was worked out by hand."""

import unittest

from reference import ADDED, flat
from sharedots.desk import share

REFUSAL = [0, -22]


class ShareCase(unittest.TestCase):

    def check(self, length, things, left, sizes):
        self.assertEqual(share(length, flat(things)), [1, ADDED + left, len(things)] + sizes)


class Ordinary(ShareCase):

    def test_wishes_less_than_length(self):
        things = [(0, 2, 10, 1, 1), (0, 3, 10, 1, 1)]
        self.check(9, things, 0, [4, 5])
        self.check(10, things, 0, [4, 6])

    def test_wishes_more_than_length(self):
        things = [(0, 2, 10, 1, 1), (0, 3, 10, 1, 1)]
        self.check(3, things, 0, [1, 2])
        self.check(4, things, 0, [1, 3])

    def test_wishes_just_the_length(self):
        self.check(5, [(0, 2, 10, 1, 1), (0, 3, 10, 1, 1)], 0, [2, 3])
        self.check(5, [(2, 2, 2, 0, 0), (0, 3, 10, 255, 255)], 0, [2, 3])

    def test_grow_tells_how_much_is_taken(self):
        # 1 + 17/6, 1 + 34/6, 1 + 51/6
        self.check(20, [(0, 1, 20, 1, 9), (0, 1, 20, 2, 9), (0, 1, 20, 3, 9)], 0, [3, 7, 10])

    def test_give_tells_how_much_is_given(self):
        # 20 - 20/6, 20 - 40/6, 20 - 60/6
        self.check(40, [(0, 20, 20, 9, 1), (0, 20, 20, 9, 2), (0, 20, 20, 9, 3)], 0, [16, 14, 10])

    def test_order_is_kept(self):
        self.check(12, [(0, 1, 3, 1, 1), (0, 2, 20, 1, 1), (0, 3, 4, 1, 1)], 0, [3, 5, 4])
        self.check(12, [(0, 3, 4, 1, 1), (0, 2, 20, 1, 1), (0, 1, 3, 1, 1)], 0, [4, 5, 3])

    def test_weight_of_none_stays_at_the_wish(self):
        self.check(20, [(0, 4, 50, 0, 1), (0, 4, 50, 1, 0)], 0, [4, 16])
        self.check(5, [(0, 4, 50, 0, 1), (0, 4, 50, 1, 0)], 0, [1, 4])


class FullWhileOthersGoOn(ShareCase):

    def test_one_full(self):
        self.check(30, [(0, 5, 7, 1, 0), (0, 5, 90, 1, 0), (0, 5, 90, 1, 0)], 0, [7, 11, 12])

    def test_one_at_its_least(self):
        self.check(30, [(18, 20, 20, 0, 1), (0, 20, 20, 0, 1), (0, 20, 20, 0, 1)], 0, [18, 6, 6])

    def test_three_full_one_after_another(self):
        # The common t is 37 3/4 at first, then 43 2/3, then 45 1/2, and 47 in the end.
        things = [(0, 0, 20, 1, 0), (0, 0, 40, 1, 0), (0, 0, 44, 1, 0), (0, 0, 1000, 1, 0)]
        self.check(151, things, 0, [20, 40, 44, 47])
        self.check(151, things[::-1], 0, [47, 44, 40, 20])

    def test_three_at_their_least_one_after_another(self):
        things = [(80, 100, 100, 0, 1), (60, 100, 100, 0, 1), (56, 100, 100, 0, 1), (0, 100, 100, 0, 1)]
        self.check(249, things, 0, [80, 60, 56, 53])
        self.check(249, things[::-1], 0, [53, 56, 60, 80])

    def test_full_by_weight_not_by_room(self):
        # The one with more room is full first: it takes ten times as fast.
        self.check(35, [(0, 0, 20, 10, 0), (0, 0, 18, 1, 0)], 0, [20, 15])
        self.check(3, [(0, 20, 20, 0, 10), (0, 18, 18, 0, 1)], 0, [0, 3])

    def test_full_ones_leave_a_fraction(self):
        # 20, then 11 shared by weights 1 and 2: 3 2/3 and 7 1/3.
        self.check(31, [(0, 0, 50, 1, 0), (0, 0, 20, 255, 0), (0, 0, 50, 2, 0)], 0, [3, 20, 8])

    def test_all_full_at_just_the_length(self):
        self.check(12, [(0, 1, 5, 1, 1), (0, 2, 7, 200, 1)], 0, [5, 7])
        self.check(6, [(2, 9, 9, 1, 1), (4, 5, 9, 1, 200)], 0, [2, 4])


class NotFilled(ShareCase):

    def test_all_that_grow_have_their_most(self):
        self.check(20, [(0, 2, 5, 1, 1), (0, 3, 9, 0, 1)], 12, [5, 3])

    def test_all_that_give_have_their_least(self):
        self.check(1, [(2, 5, 9, 1, 1), (3, 4, 9, 1, 0)], -5, [2, 4])

    def test_one_dot_left(self):
        things = [(0, 2, 5, 1, 1), (0, 3, 4, 7, 1)]
        self.check(8, things, 0, [4, 4])
        self.check(9, things, 0, [5, 4])
        self.check(10, things, 1, [5, 4])

    def test_one_dot_too_long(self):
        things = [(2, 5, 9, 1, 1), (3, 4, 9, 1, 7)]
        self.check(6, things, 0, [3, 3])
        self.check(5, things, 0, [2, 3])
        self.check(4, things, -1, [2, 3])

    def test_farthest_below_and_above(self):
        self.check(0, [(65535, 65535, 65535, 255, 255)] * 64, -4194240, [65535] * 64)
        self.check(4194304, [(0, 0, 0, 255, 255)] * 64, 4194304, [0] * 64)
        self.check(4194304, [(0, 0, 65535, 1, 1)] * 64, 64, [65535] * 64)


class EdgesBetweenDots(ShareCase):

    def test_ten_dots_for_seven(self):
        # 10/7, 20/7, 30/7 ..: 1, 2, 4, 5, 7, 8, 10
        self.check(10, [(0, 0, 99, 3, 0)] * 7, 0, [1, 1, 2, 1, 2, 1, 2])

    def test_giving_rounds_the_edge_down_too(self):
        # 2/3, 4/3, 2
        self.check(2, [(0, 1, 1, 0, 1)] * 3, 0, [0, 1, 1])

    def test_a_thing_that_stays_keeps_its_size(self):
        # 3 1/3, 8 1/3, 11 2/3, 15
        self.check(15, [(0, 3, 9, 1, 0), (0, 5, 9, 0, 0), (0, 3, 9, 1, 0), (0, 3, 9, 1, 0)], 0, [3, 5, 3, 4])

    def test_an_edge_just_on_a_dot(self):
        # 1 1/2, 3, 4 1/2, 6
        self.check(6, [(0, 0, 9, 1, 0)] * 4, 0, [1, 2, 1, 2])

    def test_an_edge_just_below_a_dot(self):
        # 255/256 and 1/256 of one dot, then the other way round
        self.check(1, [(0, 0, 9, 255, 0), (0, 0, 9, 1, 0)], 0, [0, 1])
        self.check(256, [(0, 0, 999, 255, 0), (0, 0, 999, 1, 0)], 0, [255, 1])
        self.check(257, [(0, 0, 999, 1, 0), (0, 0, 999, 255, 0)], 0, [1, 256])


class Corners(ShareCase):

    def test_no_things(self):
        self.check(0, [], 0, [])
        self.check(1, [], 1, [])
        self.check(4194304, [], 4194304, [])

    def test_all_grow_0(self):
        self.check(50, [(0, 3, 9, 0, 1), (0, 4, 9, 0, 1)], 43, [3, 4])

    def test_all_give_0(self):
        self.check(2, [(0, 3, 9, 1, 0), (0, 4, 9, 1, 0)], -5, [3, 4])

    def test_most_is_the_wish(self):
        self.check(20, [(0, 6, 6, 255, 1), (0, 6, 30, 1, 1)], 0, [6, 14])
        self.check(20, [(0, 6, 6, 255, 1), (0, 6, 6, 1, 1)], 8, [6, 6])

    def test_least_is_the_wish(self):
        self.check(8, [(6, 6, 9, 1, 255), (0, 6, 9, 1, 1)], 0, [6, 2])
        self.check(8, [(6, 6, 9, 1, 255), (6, 6, 9, 1, 1)], -4, [6, 6])

    def test_weights_of_1_and_255(self):
        # 1000/256 is 3 29/32
        self.check(1000, [(0, 0, 2000, 1, 0), (0, 0, 2000, 255, 0)], 0, [3, 997])
        self.check(1000, [(0, 1000, 2000, 0, 1), (0, 1000, 2000, 0, 255)], 0, [996, 4])

    def test_length_of_0(self):
        self.check(0, [(0, 3, 9, 1, 1), (0, 4, 9, 1, 255)], 0, [0, 0])
        self.check(0, [(1, 3, 9, 1, 1), (0, 4, 9, 1, 255)], -1, [1, 0])
        self.check(0, [(0, 0, 0, 0, 0)], 0, [0])

    def test_1_dot_for_three(self):
        self.check(1, [(0, 0, 9, 1, 1)] * 3, 0, [0, 0, 1])
        self.check(1, [(0, 5, 9, 1, 1)] * 3, 0, [0, 0, 1])
        self.check(2, [(0, 0, 9, 1, 1)] * 3, 0, [0, 1, 1])


class Refusals(ShareCase):

    def refused(self, length, things):
        self.assertEqual(share(length, flat(things)), REFUSAL)

    def beside_good_ones(self, thing):
        """A thing alone, first, last and amid good ones."""
        good = (0, 1, 2, 1, 1)
        return [[thing], [thing, good], [good, thing], [good] * 31 + [thing] + [good] * 32]

    def test_how_many_things(self):
        self.check(64, [(0, 1, 2, 1, 1)] * 64, 0, [1] * 64)
        self.refused(65, [(0, 1, 2, 1, 1)] * 65)
        self.refused(0, [(0, 0, 0, 0, 0)] * 65)
        self.refused(80, [(0, 1, 2, 1, 1)] * 80)

    def test_length(self):
        self.check(4194304, [(0, 1, 2, 1, 1)], 4194302, [2])
        self.refused(4194305, [(0, 1, 2, 1, 1)])
        self.refused(4194305, [])
        self.refused(4294967295, [])
        self.refused(4294967295, [(0, 1, 2, 1, 1)])

    def test_least_and_wish(self):
        self.check(5, [(5, 5, 9, 1, 1)], 0, [5])
        for things in self.beside_good_ones((6, 5, 9, 1, 1)):
            self.refused(5, things)

    def test_wish_and_most(self):
        self.check(9, [(5, 9, 9, 1, 1)], 0, [9])
        for things in self.beside_good_ones((5, 10, 9, 1, 1)):
            self.refused(9, things)

    def test_lengths_out_of_order(self):
        self.refused(9, [(10, 9, 9, 0, 0)])
        self.refused(0, [(1, 0, 0, 0, 0)])
        self.refused(0, [(0, 1, 0, 0, 0)])

    def test_most(self):
        self.check(70000, [(0, 5, 65535, 1, 1)], 4465, [65535])
        self.check(65535, [(65535, 65535, 65535, 1, 1)], 0, [65535])
        for things in self.beside_good_ones((0, 5, 65536, 1, 1)):
            self.refused(5, things)
        self.refused(65536, [(65536, 65536, 65536, 1, 1)])

    def test_grow(self):
        self.check(7, [(0, 5, 9, 255, 1)], 0, [7])
        for things in self.beside_good_ones((0, 5, 9, 256, 1)):
            self.refused(7, things)

    def test_give(self):
        self.check(3, [(0, 5, 9, 1, 255)], 0, [3])
        for things in self.beside_good_ones((0, 5, 9, 1, 256)):
            self.refused(3, things)

    def test_a_bound_holds_where_it_is_not_needed(self):
        self.refused(9, [(0, 5, 9, 1, 256)])
        self.refused(1, [(0, 5, 9, 256, 1)])
        self.refused(5, [(0, 5, 9, 256, 1)])
        self.refused(1, [(0, 5, 65536, 0, 1)])

    def test_greatest_numbers_handed_in(self):
        top = 4294967295
        for thing in [(top, top, top, 65535, 65535), (0, 0, top, 0, 0), (0, top, top, 0, 0), (top, 0, 0, 0, 0),
                      (0, top, 0, 0, 0), (0, 0, 0, 65535, 0), (0, 0, 0, 0, 65535)]:
            self.refused(0, [thing])
            self.refused(top, [thing])
            self.refused(top, [thing] * 80)
            self.refused(4194304, [thing] * 64)


if __name__ == "__main__":
    unittest.main()
