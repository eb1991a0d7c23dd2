"""[1.1] and [1.2]: filled and plain."""

import unittest
from itertools import product

from helpers import NUMBER, SMALL, TRUTH, fun, gap, gaps, listed, pair, put, within
from kindspan.kinds import filled, plain


class TestFilled(unittest.TestCase):
    def test_each_sort_of_kind(self):
        told = {0: NUMBER, 1: TRUTH}
        self.assertEqual(filled(("number",), told), ("number",))
        self.assertEqual(filled(("truth",), told), ("truth",))
        self.assertEqual(filled(("fun", gap(0), gap(1)), told), ("fun", NUMBER, TRUTH))
        self.assertEqual(filled(("pair", gap(1), gap(0)), told), ("pair", TRUTH, NUMBER))
        self.assertEqual(filled(("list", gap(0)), told), ("list", NUMBER))
        self.assertEqual(filled(("any", 1), told), TRUTH)

    def test_a_gap_that_the_dict_has_not_stays(self):
        self.assertEqual(filled(gap(2), {0: NUMBER}), gap(2))
        self.assertEqual(filled(fun(gap(0), gap(2)), {0: NUMBER}), fun(NUMBER, gap(2)))

    def test_numbers_that_the_kind_has_not_do_nothing(self):
        self.assertEqual(filled(listed(gap(3)), {7: NUMBER, 8: gap(3)}), listed(gap(3)))

    def test_the_empty_dict(self):
        for kind in SMALL:
            self.assertEqual(filled(kind, {}), kind)

    def test_the_same_gap_is_filled_everywhere(self):
        kind = fun(pair(gap(0), gap(1)), listed(gap(0)))
        self.assertEqual(filled(kind, {0: listed(TRUTH)}), fun(pair(listed(TRUTH), gap(1)), listed(listed(TRUTH))))

    def test_all_at_once(self):
        self.assertEqual(filled(pair(gap(0), gap(1)), {0: gap(1), 1: gap(0)}), pair(gap(1), gap(0)))
        self.assertEqual(filled(pair(gap(0), gap(1)), {0: gap(1), 1: NUMBER}), pair(gap(1), NUMBER))
        self.assertEqual(filled(pair(gap(0), gap(1)), {1: gap(0), 0: NUMBER}), pair(NUMBER, gap(0)))

    def test_a_kind_may_have_its_own_number(self):
        self.assertEqual(filled(pair(gap(0), gap(0)), {0: listed(gap(0))}), pair(listed(gap(0)), listed(gap(0))))

    def test_great_numbers_of_gaps(self):
        great = 10 ** 60 - 1
        self.assertEqual(filled(fun(gap(great), gap(great - 1)), {great: NUMBER}), fun(NUMBER, gap(great - 1)))

    def test_what_is_handed_in_stays(self):
        kind = fun(gap(0), pair(gap(1), gap(2)))
        told = {1: listed(gap(0)), 0: gap(1)}
        filled(kind, told)
        self.assertEqual(kind, ("fun", ("any", 0), ("pair", ("any", 1), ("any", 2))))
        self.assertEqual(list(told.items()), [(1, ("list", ("any", 0))), (0, ("any", 1))])

    def test_the_dict_is_not_kept(self):
        told = {0: NUMBER}
        first = filled(listed(gap(0)), told)
        told[0] = TRUTH
        self.assertEqual(first, listed(NUMBER))
        self.assertEqual(filled(listed(gap(0)), told), listed(TRUTH))
        self.assertEqual(filled(listed(gap(0)), {}), listed(gap(0)))

    def test_all_small_kinds_and_dicts(self):
        for kind in SMALL:
            for zero, one in product(SMALL, repeat=2):
                told = {0: zero, 1: one}
                self.assertEqual(filled(kind, told), put(kind, told))


class TestPlain(unittest.TestCase):
    def test_from_the_left(self):
        self.assertEqual(plain(fun(gap(5), gap(2))), fun(gap(0), gap(1)))
        self.assertEqual(plain(pair(pair(gap(9), gap(7)), gap(8))), pair(pair(gap(0), gap(1)), gap(2)))
        self.assertEqual(plain(pair(gap(9), pair(gap(7), gap(8)))), pair(gap(0), pair(gap(1), gap(2))))
        self.assertEqual(plain(gap(4)), gap(0))

    def test_a_deep_gap_on_the_left_comes_first(self):
        kind = fun(listed(listed(fun(NUMBER, gap(3)))), gap(1))
        self.assertEqual(plain(kind), fun(listed(listed(fun(NUMBER, gap(0)))), gap(1)))

    def test_the_same_gap_keeps_its_number(self):
        kind = fun(gap(6), fun(gap(4), fun(gap(6), gap(4))))
        self.assertEqual(plain(kind), fun(gap(0), fun(gap(1), fun(gap(0), gap(1)))))

    def test_numbers_that_change_places(self):
        self.assertEqual(plain(pair(gap(1), gap(0))), pair(gap(0), gap(1)))
        self.assertEqual(plain(pair(gap(1), pair(gap(0), gap(1)))), pair(gap(0), pair(gap(1), gap(0))))

    def test_plain_already(self):
        kind = fun(gap(0), pair(gap(1), listed(gap(0))))
        self.assertEqual(plain(kind), kind)

    def test_without_gaps(self):
        for kind in (NUMBER, TRUTH, fun(NUMBER, listed(pair(TRUTH, NUMBER)))):
            self.assertEqual(plain(kind), kind)

    def test_great_numbers_of_gaps(self):
        great = 10 ** 60 - 1
        self.assertEqual(plain(pair(gap(great), pair(gap(0), gap(great)))), pair(gap(0), pair(gap(1), gap(0))))

    def test_all_small_kinds(self):
        for kind in SMALL:
            told = plain(kind)
            first_met = list(dict.fromkeys(part[1] for part in within(told) if part[0] == "any"))
            self.assertEqual(first_met, list(range(len(gaps(kind)))))
            numbers = {}
            for one, other in zip(within(kind), within(told)):
                self.assertEqual(one[0], other[0])
                if one[0] == "any":
                    self.assertEqual(numbers.setdefault(one[1], other[1]), other[1])


if __name__ == "__main__":
    unittest.main()
