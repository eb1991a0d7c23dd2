"""[1.2]: wider, or as wide."""

import unittest

from helpers import NUMBER, SMALL, TRUTH, fits, fun, gap, listed, pair
from kindspan.kinds import filled, is_wider


class TestIsWider(unittest.TestCase):
    def yes(self, wide, kind):
        self.assertIs(is_wider(wide, kind), True)

    def no(self, wide, kind):
        self.assertIs(is_wider(wide, kind), False)

    def test_a_kind_and_what_it_comes_to_filled(self):
        wide = fun(gap(0), pair(gap(1), gap(0)))
        for told in ({}, {0: NUMBER}, {0: gap(1), 1: gap(0)}, {0: listed(gap(0)), 1: fun(gap(1), TRUTH)}):
            self.yes(wide, filled(wide, told))

    def test_turned_about(self):
        self.yes(gap(0), NUMBER)
        self.no(NUMBER, gap(0))
        self.yes(listed(gap(0)), listed(pair(gap(0), NUMBER)))
        self.no(listed(pair(gap(0), NUMBER)), listed(gap(0)))
        self.yes(pair(gap(0), gap(1)), pair(gap(0), gap(0)))
        self.no(pair(gap(0), gap(0)), pair(gap(0), gap(1)))

    def test_the_same_gap_at_two_places(self):
        wide = pair(gap(0), gap(0))
        self.yes(wide, pair(NUMBER, NUMBER))
        self.yes(wide, pair(listed(gap(3)), listed(gap(3))))
        self.no(wide, pair(NUMBER, TRUTH))
        self.no(wide, pair(listed(gap(3)), listed(gap(2))))
        self.no(wide, pair(listed(NUMBER), listed(TRUTH)))
        self.no(fun(gap(0), pair(NUMBER, gap(0))), fun(TRUTH, pair(NUMBER, NUMBER)))

    def test_against_itself_and_other_numbers(self):
        for kind in SMALL:
            self.yes(kind, kind)
            turned = filled(kind, {0: gap(1), 1: gap(0)})
            self.yes(kind, turned)
            self.yes(turned, kind)
            self.yes(kind, filled(kind, {0: gap(17), 1: gap(4)}))

    def test_the_same_numbers_on_both_sides_are_not_the_same_gaps(self):
        self.yes(gap(0), listed(gap(0)))
        self.yes(pair(gap(0), gap(1)), pair(gap(1), listed(gap(0))))
        self.no(pair(gap(0), gap(0)), pair(gap(0), listed(gap(0))))

    def test_other_sorts(self):
        kinds = [NUMBER, TRUTH, fun(gap(0), gap(1)), pair(gap(0), gap(1)), listed(gap(0))]
        for one in kinds:
            for other in kinds:
                self.assertIs(is_wider(one, other), one == other)

    def test_a_difference_at_any_place(self):
        kind = fun(pair(NUMBER, listed(TRUTH)), listed(NUMBER))
        self.no(fun(pair(TRUTH, gap(0)), gap(1)), kind)
        self.no(fun(pair(gap(2), listed(NUMBER)), gap(1)), kind)
        self.no(fun(gap(0), listed(TRUTH)), kind)
        self.yes(fun(pair(gap(0), gap(1)), listed(gap(0))), kind)

    def test_all_small_kinds(self):
        for wide in SMALL:
            for kind in SMALL:
                self.assertIs(is_wider(wide, kind), fits(wide, kind), (wide, kind))


if __name__ == "__main__":
    unittest.main()
