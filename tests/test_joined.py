"""[1.3]: joined."""

import unittest
from itertools import product

from helpers import LEAVES, NUMBER, SMALL, TRUTH, fits, fun, gap, gaps, listed, one_more_round, pair, put
from kindspan.errors import KindError, NoJoin
from kindspan.kinds import joined


def join_or_none(one, other):
    try:
        return joined(one, other)
    except NoJoin:
        return None


class TestJoined(unittest.TestCase):
    def check(self, one, other, widest):
        """Both come to `widest`, but for the numbers of its gaps, and the dict is of the form promised."""
        told = joined(one, other)
        self.well_formed(one, other, told)
        same = put(one, told)
        self.assertEqual(put(other, told), same)
        self.assertTrue(fits(same, widest), (same, widest))
        self.assertTrue(fits(widest, same), (same, widest))
        return told

    def well_formed(self, one, other, told):
        self.assertIs(type(told), dict)
        self.assertLessEqual(set(told), gaps(one) | gaps(other))
        for kind in told.values():
            self.assertFalse(gaps(kind) & set(told), told)

    def refused(self, one, other):
        for first, second in ((one, other), (other, one)):
            with self.assertRaises(NoJoin) as caught:
                joined(first, second)
            self.assertIs(type(caught.exception), NoJoin)
            self.assertIsInstance(caught.exception, KindError)
            self.assertIsInstance(caught.exception, ValueError)

    def test_a_gap_and_a_kind(self):
        self.assertEqual(joined(gap(0), NUMBER), {0: NUMBER})
        self.assertEqual(joined(fun(gap(1), TRUTH), gap(4)), {4: fun(gap(1), TRUTH)})

    def test_gaps_on_both_sides(self):
        self.assertEqual(joined(fun(gap(0), TRUTH), fun(NUMBER, gap(1))), {0: NUMBER, 1: TRUTH})
        self.check(fun(gap(0), listed(gap(1))), fun(pair(gap(2), gap(3)), gap(4)), fun(pair(gap(0), gap(1)), listed(gap(2))))

    def test_the_same_already(self):
        for kind in SMALL:
            self.assertEqual(joined(kind, kind), {})

    def test_the_same_gap_on_both_sides(self):
        self.assertEqual(joined(pair(gap(0), gap(0)), pair(gap(0), NUMBER)), {0: NUMBER})
        self.check(pair(gap(0), gap(1)), pair(gap(1), gap(0)), pair(gap(0), gap(0)))
        self.check(pair(gap(0), NUMBER), pair(gap(1), gap(0)), pair(NUMBER, NUMBER))

    def test_two_gaps_become_one(self):
        told = self.check(gap(0), gap(1), gap(0))
        self.assertIn(told, ({0: gap(1)}, {1: gap(0)}))

    def test_a_gap_that_nothing_asks_to_fill_stays(self):
        told = self.check(pair(gap(0), gap(1)), pair(gap(0), NUMBER), pair(gap(0), NUMBER))
        self.assertEqual(told, {1: NUMBER})

    def test_chains_of_gaps(self):
        one = pair(gap(0), pair(gap(1), pair(gap(2), gap(3))))
        other = pair(gap(1), pair(gap(2), pair(gap(3), gap(4))))
        self.check(one, other, pair(gap(0), pair(gap(0), pair(gap(0), gap(0)))))
        ended = pair(gap(1), pair(gap(2), pair(gap(3), listed(TRUTH))))
        end = listed(TRUTH)
        told = self.check(one, ended, pair(end, pair(end, pair(end, end))))
        self.assertEqual(told, {0: end, 1: end, 2: end, 3: end})

    def test_chains_through_kinds(self):
        one = pair(gap(0), pair(gap(1), gap(2)))
        other = pair(listed(gap(1)), pair(listed(gap(2)), NUMBER))
        self.assertEqual(joined(one, other), {0: listed(listed(NUMBER)), 1: listed(NUMBER), 2: NUMBER})

    def test_a_gap_that_meets_two_kinds(self):
        one = pair(gap(0), gap(0))
        other = pair(fun(gap(1), NUMBER), fun(TRUTH, gap(2)))
        self.assertEqual(joined(one, other), {0: fun(TRUTH, NUMBER), 1: TRUTH, 2: NUMBER})

    def test_great_numbers_of_gaps(self):
        great = 10 ** 60 - 1
        self.assertEqual(joined(listed(gap(great)), listed(TRUTH)), {great: TRUTH})

    def test_different_sorts(self):
        kinds = [NUMBER, TRUTH, fun(gap(0), gap(1)), pair(gap(0), gap(1)), listed(gap(0))]
        for one in kinds:
            for other in kinds:
                if one != other:
                    self.refused(one, other)
                    self.refused(listed(one), listed(other))

    def test_different_sorts_behind_gaps(self):
        self.refused(pair(gap(0), gap(0)), pair(NUMBER, TRUTH))
        self.refused(pair(gap(0), pair(gap(1), gap(0))), pair(gap(1), pair(NUMBER, listed(gap(2)))))
        self.refused(fun(listed(gap(0)), gap(0)), fun(listed(TRUTH), NUMBER))

    def test_a_gap_within_its_own_kind(self):
        self.refused(gap(0), listed(gap(0)))
        self.refused(gap(3), fun(NUMBER, pair(gap(1), gap(3))))
        self.refused(pair(gap(0), gap(1)), pair(listed(gap(1)), listed(gap(0))))
        self.refused(pair(gap(0), gap(0)), pair(gap(1), listed(gap(1))))
        self.refused(pair(NUMBER, pair(gap(0), gap(2))), pair(gap(1), pair(gap(2), listed(gap(0)))))
        self.refused(pair(gap(0), pair(gap(0), gap(1))), pair(listed(gap(1)), pair(listed(gap(2)), listed(gap(2)))))

    def test_what_is_handed_in_stays_and_dicts_are_new(self):
        one = fun(gap(0), gap(1))
        other = fun(listed(gap(2)), NUMBER)
        first = joined(one, other)
        first[7] = TRUTH
        second = joined(one, other)
        self.assertEqual(second, {0: listed(gap(2)), 1: NUMBER})
        self.assertEqual(one, ("fun", ("any", 0), ("any", 1)))
        self.assertEqual(other, ("fun", ("list", ("any", 2)), ("number",)))
        empty = joined(NUMBER, NUMBER)
        empty[0] = NUMBER
        self.assertEqual(joined(NUMBER, NUMBER), {})

    def test_all_small_kinds_against_every_small_dict(self):
        dicts = [{0: zero, 1: one} for zero, one in product(SMALL, repeat=2)]
        for one, other in product(SMALL, repeat=2):
            told = join_or_none(one, other)
            same = {put(one, each) for each in dicts if put(one, each) == put(other, each)}
            if told is None:
                self.assertEqual(same, set(), (one, other))
                continue
            self.well_formed(one, other, told)
            widest = put(one, told)
            self.assertEqual(widest, put(other, told))
            self.assertTrue(all(fits(widest, kind) for kind in same), (one, other, told))

    def test_many_kinds_against_a_slow_way(self):
        kinds = one_more_round(one_more_round(LEAVES))
        for one in kinds[::5]:
            for other in kinds[::3]:
                slow = slowly_joined(one, other)
                told = join_or_none(one, other)
                self.assertEqual(told is None, slow is None, (one, other))
                if told is not None:
                    self.well_formed(one, other, told)
                    self.assertEqual(put(one, told), put(other, told))
                    self.assertTrue(fits(put(one, told), put(one, slow)), (one, other))


def slowly_joined(one, other):
    """One gap filled at a time, everywhere; None where there is no dict."""
    told = {}
    waiting = [(one, other)]
    while waiting:
        first, second = waiting.pop()
        first, second = put(first, told), put(second, told)
        if first == second:
            continue
        if second[0] == "any":
            first, second = second, first
        if first[0] == "any":
            if first[1] in gaps(second):
                return None
            step = {first[1]: second}
            told = {number: put(kind, step) for number, kind in told.items()}
            told.update(step)
        elif first[0] != second[0]:
            return None
        else:
            waiting.extend(zip(first[1:], second[1:]))
    return told


if __name__ == "__main__":
    unittest.main()
