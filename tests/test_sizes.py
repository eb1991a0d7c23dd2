"""[0.3]: kinds of 200 tuples, 100 within one another, and somewhat beyond."""

import unittest

from helpers import NUMBER, TRUTH, chain, comb, depth, even, fun, gap, listed, pair, within
from kindspan.errors import NoJoin
from kindspan.kinds import filled, is_wider, joined, plain


def doubled(levels):
    """Two kinds whose joined one has 2 ** levels gaps, written out."""
    one = comb([gap(k) for k in range(levels)] + [NUMBER])
    other = comb([pair(gap(k + 1), gap(k + 1)) for k in range(levels)] + [NUMBER])
    return one, other


class TestSizes(unittest.TestCase):
    def test_the_kinds_here_are_at_the_edge(self):
        self.assertEqual(depth(chain(99, gap(0))), 100)
        two = fun(chain(99, gap(0)), chain(98, gap(1)))
        self.assertEqual(len(within(two)), 200)
        self.assertEqual(len(within(listed(comb([gap(k) for k in range(100)])))), 200)

    def test_filled_and_plain_100_within_one_another(self):
        deep = chain(99, gap(7))
        self.assertEqual(filled(deep, {7: NUMBER}), chain(99, NUMBER))
        self.assertEqual(filled(deep, {7: deep}), chain(198, gap(7)))
        self.assertEqual(plain(deep), chain(99, gap(0)))
        left = gap(5)
        for k in range(99):
            left = fun(left, gap(k + 6))
        self.assertEqual(plain(left), filled(left, {k + 5: gap(k) for k in range(100)}))

    def test_is_wider_100_within_one_another(self):
        self.assertIs(is_wider(chain(99, gap(3)), chain(99, TRUTH)), True)
        self.assertIs(is_wider(chain(99, NUMBER), chain(99, TRUTH)), False)
        self.assertIs(is_wider(chain(99, TRUTH), chain(98, TRUTH)), False)
        twice = fun(gap(0), gap(0))
        self.assertIs(is_wider(twice, fun(chain(98, gap(1)), chain(98, gap(1)))), True)
        self.assertIs(is_wider(twice, fun(chain(98, gap(1)), chain(98, gap(2)))), False)

    def test_joined_100_within_one_another(self):
        self.assertEqual(joined(chain(99, gap(0)), chain(99, NUMBER)), {0: NUMBER})
        self.assertEqual(joined(gap(0), chain(99, gap(1))), {0: chain(99, gap(1))})
        with self.assertRaises(NoJoin):
            joined(gap(0), chain(99, gap(0)))
        with self.assertRaises(NoJoin):
            joined(chain(99, TRUTH), chain(99, NUMBER))

    def test_joined_lies_deeper_than_either(self):
        one = pair(gap(0), gap(1))
        other = pair(chain(98, gap(1)), chain(98, TRUTH))
        told = joined(one, other)
        self.assertEqual(told, {0: chain(196, TRUTH), 1: chain(98, TRUTH)})
        self.assertEqual(plain(filled(one, told)), pair(chain(196, TRUTH), chain(98, TRUTH)))

    def test_200_tuples(self):
        one = listed(comb([gap(k) for k in range(100)]))
        other = listed(comb([gap(200 - k) for k in range(100)]))
        self.assertEqual(plain(other), one)
        self.assertEqual(filled(one, {k: gap(200 - k) for k in range(100)}), other)
        self.assertIs(is_wider(one, other), True)
        told = joined(one, other)
        self.assertEqual(len(told), 100)
        self.assertEqual(filled(one, told), filled(other, told))

    def test_200_tuples_of_one_chain_of_gaps(self):
        one = listed(comb([gap(k) for k in range(100)]))
        other = listed(comb([gap(k + 1) for k in range(99)] + [NUMBER]))
        self.assertEqual(joined(one, other), {k: NUMBER for k in range(100)})

    def test_somewhat_beyond(self):
        deep = chain(400, gap(3))
        self.assertEqual(plain(deep), chain(400, gap(0)))
        self.assertIs(is_wider(deep, chain(400, NUMBER)), True)
        self.assertEqual(joined(deep, chain(400, NUMBER)), {3: NUMBER})
        many = even([gap(k) for k in range(500)])
        self.assertEqual(plain(filled(many, {k: gap(499 - k) for k in range(500)})), many)
        self.assertEqual(joined(many, even([NUMBER] * 500)), {k: NUMBER for k in range(500)})

    def test_joined_kinds_that_are_too_long_to_write_out(self):
        one, other = doubled(40)
        self.assertLessEqual(len(within(other)), 200)
        told = joined(one, other)
        self.assertEqual(sorted(told), list(range(40)))
        kind = told[0]
        for _ in range(40):
            self.assertEqual(kind[0], "pair")
            kind = kind[1]
        self.assertEqual(kind, gap(40))

    def test_joined_kinds_that_double_on_both_sides(self):
        # Both sides double, and only at the end do the two meet.
        ends = [pair(gap(k + 1), gap(k + 1)) for k in range(24)]
        others = [pair(gap(k + 101), gap(k + 101)) for k in range(24)]
        one = comb([gap(k) for k in range(24)] + [gap(k + 100) for k in range(24)] + [gap(0)])
        other = comb(ends + others + [gap(100)])
        told = joined(one, other)
        self.assertEqual(len(told), 49)
        with self.assertRaises(NoJoin):
            joined(pair(one, gap(24)), pair(other, listed(gap(124))))


if __name__ == "__main__":
    unittest.main()
