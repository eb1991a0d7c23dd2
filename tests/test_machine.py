"""[4.1], [4.2] and [4.3]: the machine that does code."""

import unittest

from kindspan.errors import KindError, Stuck
from kindspan.machine import done

END = ("end",)
ONE = ("number", 1)
TWO = ("number", 2)
THREE = ("number", 3)
TRUE = ("truth", True)
FALSE = ("truth", False)
EMPTY = ("empty",)
PAIR = ("pair",)
LINK = ("link",)
CALL = ("call",)
BACK = ("back",)
LET = ("let",)
OPEN = ("open",)
FUN = ("fun",)


def name(k):
    return ("name", k)


def drop(k):
    return ("drop", k)


def jump(n):
    return ("jump", n)


class Asked(unittest.TestCase):
    def tells(self, code, value, calls=0):
        """This value by so many calls; None where fewer may be; and the code stays."""
        kept = list(code)
        for most in (calls, calls + 1, 10 ** 60):
            told = done(code, most)
            self.assertIs(type(told), tuple)
            self.assertEqual(told, (value, calls), code)
        for most in range(calls):
            self.assertIsNone(done(code, most), code)
        self.assertEqual(code, kept)

    def stuck(self, *codes, most=100):
        for code in codes:
            kept = list(code)
            with self.assertRaises(Stuck, msg=code) as caught:
                done(code, most)
            self.assertIs(type(caught.exception), Stuck)
            self.assertIsInstance(caught.exception, KindError)
            self.assertEqual(code, kept)


class TestSteps(Asked):
    def test_plain_values(self):
        for value in (ONE, ("number", -3), ("number", 10 ** 60 - 1), TRUE, FALSE, EMPTY):
            self.tells([value, END], value)

    def test_end_tells_the_top_of_the_pile(self):
        self.tells([ONE, TWO, END], TWO)
        self.tells([ONE, END, TWO, END], ONE)

    def test_pair_and_link(self):
        self.tells([ONE, TWO, PAIR, END], ("pair", ONE, TWO))
        self.tells([ONE, TWO, THREE, PAIR, PAIR, END], ("pair", ONE, ("pair", TWO, THREE)))
        self.tells([ONE, EMPTY, LINK, END], ("link", ONE, EMPTY))
        self.tells([TRUE, ONE, LINK, END], ("link", TRUE, ONE))
        self.tells([EMPTY, ("fun", 1), BACK, LINK, END], ("link", EMPTY, FUN))

    def test_op(self):
        for word, value in (("plus", ("number", 7)), ("minus", THREE), ("less", FALSE), ("same", FALSE)):
            self.tells([("number", 5), TWO, ("op", word), END], value)
        self.tells([TWO, THREE, ("op", "less"), END], TRUE)
        self.tells([TWO, TWO, ("op", "less"), END], FALSE)
        self.tells([TWO, TWO, ("op", "same"), END], TRUE)
        self.assertIs(done([TWO, TWO, ("op", "same"), END], 0)[0][1], True)
        great = 10 ** 60 - 1
        self.tells([("number", great), ("number", great), ("op", "plus"), END], ("number", 2 * great))

    def test_let_and_name(self):
        self.tells([ONE, LET, name(0), END], ONE)
        held = [ONE, LET, TWO, LET, THREE, LET]
        self.tells(held + [name(0), END], THREE)
        self.tells(held + [name(1), END], TWO)
        self.tells(held + [name(2), END], ONE)
        self.tells([ONE, LET, name(0), name(0), PAIR, END], ("pair", ONE, ONE))

    def test_drop(self):
        held = [ONE, LET, TWO, LET, THREE, LET]
        self.tells(held + [drop(0), name(0), END], THREE)
        self.tells(held + [drop(1), name(0), END], TWO)
        self.tells(held + [drop(2), name(0), END], ONE)
        self.tells(held + [TRUE, drop(3), END], TRUE)
        self.tells(held + [drop(1), TRUE, LET, name(0), name(1), PAIR, END], ("pair", TRUE, TWO))

    def test_open(self):
        self.tells([ONE, TWO, PAIR, OPEN, name(0), END], TWO)
        self.tells([ONE, TWO, PAIR, OPEN, name(1), END], ONE)
        self.tells([TRUE, LET, ONE, TWO, PAIR, OPEN, name(2), END], TRUE)

    def test_jump(self):
        self.tells([ONE, jump(0), END], ONE)
        self.tells([ONE, jump(1), TWO, END], ONE)
        self.tells([ONE, jump(2), TWO, THREE, END, END], ONE)

    def test_when(self):
        for truth, value in ((TRUE, ONE), (FALSE, TWO)):
            self.tells([truth, ("when", 2), ONE, jump(1), TWO, END], value)
        self.tells([ONE, TRUE, ("when", 0), END], ONE)
        self.tells([ONE, FALSE, ("when", 0), END], ONE)

    def test_split(self):
        tail = [("split", 2), TWO, END, name(0), name(1), PAIR, END]
        self.tells([EMPTY] + tail, TWO)
        self.tells([ONE, EMPTY, LINK] + tail, ("pair", EMPTY, ONE))
        self.tells([ONE, THREE, EMPTY, LINK, LINK] + tail, ("pair", ("link", THREE, EMPTY), ONE))
        # Nothing more is held where the list is empty.
        self.tells([TRUE, LET, EMPTY, ("split", 1), name(0), END], TRUE)

    def test_split_of_a_link_whose_rest_is_no_list(self):
        self.tells([ONE, TRUE, LINK, ("split", 0), name(0), END], TRUE)

    def test_fun(self):
        self.tells([("fun", 2), name(0), BACK, TWO, CALL, END], TWO, 1)
        self.tells([("fun", 4), name(0), name(0), PAIR, BACK, TWO, CALL, END], ("pair", TWO, TWO), 1)
        self.tells([("fun", 1), BACK, END], FUN)
        # A function may begin and go on at one and the same place.
        self.tells([("fun", 0), ONE, END], ONE)

    def test_a_function_has_what_was_held_where_it_was_made(self):
        code = [ONE, LET, ("fun", 4), name(1), name(0), PAIR, BACK, LET, TWO, LET, name(1), THREE, CALL, END]
        self.tells(code, ("pair", ONE, THREE), 1)
        # Also where that is held no more.
        code = [ONE, LET, ("fun", 4), name(1), name(0), PAIR, BACK, drop(1), THREE, CALL, END]
        self.tells(code, ("pair", ONE, THREE), 1)

    def test_rec_has_itself_too(self):
        self.tells([("rec", 4), name(1), name(0), PAIR, BACK, TWO, CALL, END], ("pair", FUN, TWO), 1)
        # Called with 3, it calls itself down to 0.
        code = [("rec", 12), name(0), ONE, ("op", "less"), ("when", 2), TRUE, jump(5), name(1), name(0), ONE,
                ("op", "minus"), CALL, BACK, THREE, CALL, END]
        self.tells(code, TRUE, 4)
        # Then what was held at its own place, itself and the value, in this order.
        code = [ONE, LET, ("rec", 6), name(2), name(0), PAIR, name(1), PAIR, BACK, TWO, CALL, END]
        self.tells(code, ("pair", ("pair", ONE, TWO), FUN), 1)

    def test_back_holds_what_was_held_there(self):
        code = [ONE, LET, ("fun", 3), TWO, LET, BACK, THREE, CALL, name(0), END]
        self.tells(code, ONE, 1)
        code = [("fun", 9), ("fun", 2), name(0), BACK, TWO, CALL, LET, name(0), name(1), BACK, THREE, CALL, PAIR, END]
        self.tells(code, ("pair", TWO, THREE), 2)

    def test_back_leaves_the_pile(self):
        self.tells([TWO, ("fun", 3), ONE, THREE, BACK, EMPTY, CALL, PAIR, END], ("pair", ONE, THREE), 1)
        self.tells([TWO, ("fun", 1), BACK, EMPTY, CALL, END], TWO, 1)

    def test_end_within_a_call(self):
        self.tells([("fun", 2), ONE, END, TWO, CALL, END], ONE, 1)

    def test_shown(self):
        function = [("fun", 1), BACK]
        itself = [("rec", 1), BACK]
        self.tells(function + [END], FUN)
        self.tells(itself + [END], FUN)
        self.tells(function + itself + [PAIR, END], ("pair", FUN, FUN))
        self.tells(function + [EMPTY, LINK, END], ("link", FUN, EMPTY))
        self.tells(function + [ONE, PAIR, EMPTY, LINK] + itself + [PAIR, END],
                   ("pair", ("link", ("pair", FUN, ONE), EMPTY), FUN))

    def test_parts_of_pairs_and_lists_are_whole_values(self):
        code = [("fun", 2), name(0), BACK, ONE, PAIR, OPEN, name(1), TWO, CALL, END]
        self.tells(code, TWO, 1)
        code = [("fun", 2), name(0), BACK, EMPTY, LINK, ("split", 0), name(1), TWO, CALL, END]
        self.tells(code, TWO, 1)


class TestStuck(Asked):
    def test_a_step_that_is_not_there(self):
        self.stuck([], [ONE], [ONE, jump(0)], [ONE, jump(1), END], [ONE, jump(10 ** 59), END])
        self.stuck([("fun", 5), ONE, END], [("fun", 0)], [("rec", 0)])
        self.stuck([FALSE, ("when", 9), ONE, END], [ONE, EMPTY, LINK, ("split", 9), END])
        self.stuck([("fun", 9), ONE, CALL, END], [("fun", 0), LET, name(0), ONE, CALL])
        # Only where it comes there.
        self.tells([ONE, jump(1), jump(99), END], ONE)

    def test_too_few_values(self):
        self.stuck([END], [LET, END], [OPEN, END], [("when", 0), END], [("split", 0), END])
        for step in (PAIR, LINK, ("op", "plus"), ("op", "same"), CALL):
            self.stuck([step, END], [ONE, step, END])
        self.stuck([("fun", 1), BACK, CALL, END])
        self.stuck([ONE, LET, END])

    def test_too_few_held_ones(self):
        self.stuck([name(0), END], [ONE, LET, name(1), END], [ONE, LET, name(10 ** 59), END])
        self.stuck([ONE, drop(1), END], [ONE, LET, ONE, drop(2), END], [ONE, drop(10 ** 59), END])
        self.stuck([ONE, LET, drop(1), name(0), END])
        self.stuck([("fun", 2), name(1), BACK, ONE, CALL, END])
        self.stuck([("rec", 2), name(2), BACK, ONE, CALL, END])
        self.stuck([("fun", 3), ONE, drop(2), BACK, ONE, CALL, END])
        self.stuck([EMPTY, ("split", 0), name(0), END])
        # What is held where it is called is not held within the function.
        self.stuck([("fun", 2), name(1), BACK, LET, TWO, LET, name(1), ONE, CALL, END])

    def test_values_of_other_kinds(self):
        function = [("fun", 1), BACK]
        values = {
            "number": [ONE], "truth": [TRUE], "empty": [EMPTY], "pair": [ONE, TWO, PAIR],
            "link": [ONE, EMPTY, LINK], "fun": function, "rec": [("rec", 1), BACK],
        }
        fits = {
            "when": (("when", 0), ("truth",)), "split": (("split", 0), ("empty", "link")), "open": (OPEN, ("pair",)),
        }
        for step, words in fits.values():
            for word, code in values.items():
                whole = [TRUE] + code + [step, END]
                if word in words:
                    self.tells(whole, TRUE)
                else:
                    self.stuck(whole)
        for word, code in values.items():
            if word in ("fun", "rec"):
                self.tells([TRUE] + code + [ONE, CALL, END], TRUE, 1)
            else:
                self.stuck(code + [ONE, CALL, END])
            for op in ("plus", "minus", "less", "same"):
                if word != "number":
                    self.stuck(code + [ONE, ("op", op), END], [ONE] + code + [("op", op), END])
                    self.stuck(code + code + [("op", op), END])
        self.stuck([ONE] + function + [CALL, END])

    def test_nothing_to_go_back_to(self):
        self.stuck([BACK], [ONE, BACK, END], [("fun", 1), BACK, ONE, CALL, BACK, END])
        self.stuck([("fun", 0), BACK, END])

    def test_ahead_of_and_behind_the_last_call(self):
        code = [("fun", 2), name(0), BACK, ONE, CALL, TRUE, ("op", "plus"), END]
        self.assertIsNone(done(code, 0))
        self.stuck(code, most=1)
        code = [ONE, TRUE, ("op", "plus"), ("fun", 1), BACK, ONE, CALL, END]
        self.stuck(code, most=0)
        # A call that can't be done is none.
        self.stuck([ONE, ONE, CALL, END], [ONE, CALL, END], [CALL, END], most=0)


class TestMost(Asked):
    def test_reached_and_passed(self):
        code = [("fun", 2), name(0), BACK, LET] + [name(0)] * 5 + [ONE] + [CALL] * 5 + [END]
        self.tells(code, ONE, 5)

    def test_one_that_never_ends(self):
        code = [("rec", 4), name(1), name(0), CALL, BACK, ONE, CALL, END]
        for most in (0, 1, 2, 1000, 20000):
            self.assertIsNone(done(code, most))

    def test_code_stays_and_nothing_is_kept(self):
        code = [ONE, LET, name(0), name(0), PAIR, END]
        first = done(code, 3)
        code[0] = TWO
        self.assertEqual(first, (("pair", ONE, ONE), 0))
        self.assertEqual(done(code, 3), (("pair", TWO, TWO), 0))
        self.assertEqual(code, [TWO, LET, name(0), name(0), PAIR, END])

    def test_long_code(self):
        count = 20000
        self.tells([ONE] * (count + 1) + [("op", "plus")] * count + [END], ("number", count + 1))
        code = [ONE] * count + [EMPTY] + [LINK] * count + [END]
        value = done(code, 0)[0]
        for _ in range(count):
            self.assertEqual(value[:2], ("link", ONE))
            value = value[2]
        self.assertEqual(value, EMPTY)

    def test_many_held(self):
        code = [step for k in range(3000) for step in (("number", k), LET)]
        self.tells(code + [name(2999), name(0), PAIR, END], ("pair", ("number", 0), ("number", 2999)))
        self.tells(code + [drop(2999), name(0), END], ("number", 0))

    def test_values_that_are_met_at_many_places(self):
        code = [ONE] + [LET, name(0), name(0), PAIR] * 60 + [END]
        value = done(code, 0)[0]
        for _ in range(60):
            self.assertEqual(value[0], "pair")
            value = value[1]
        self.assertEqual(value, ONE)


if __name__ == "__main__":
    unittest.main()
