"""begin, act, unact, turn, lock, actis, acts."""

import unittest

from tests.lines import last, replies

BIG = 4294967295
HUGE = 10 ** 30


class Begin(unittest.TestCase):
    def test_all_sizes_that_are_let(self):
        for places in (2, 3, 4):
            for selves in (1, 2, 3):
                with self.subTest(places=places, selves=selves):
                    calls = [("begin", places, selves)] + [("acts", p) for p in range(5)]
                    self.assertEqual(replies(*calls), [[0]] + [[0]] * places + [[-2]] * (5 - places))

    def test_how_many_selves(self):
        for selves in (1, 2, 3):
            told = replies(("begin", 2, selves), *[("worth", 0, 0, s, 0, 0) for s in range(4)])
            self.assertEqual(told, [[0]] + [[0, 0, 1]] * selves + [[-2]] * (4 - selves))

    def test_sizes_that_are_refused(self):
        for places, selves in ((0, 1), (1, 1), (5, 1), (BIG, 1), (2, 0), (2, 4), (4, BIG), (1, 0), (5, 4)):
            with self.subTest(places=places, selves=selves):
                self.assertEqual(replies(("begin", places, selves), ("acts", 0)), [[-22], [-11]])

    def test_again_makes_all_anew(self):
        told = replies(
            ("begin", 2, 1), ("act", 0, [1, 1, 1]), ("turn", 0, 0, 1), ("lock", 0, 0, 1),
            ("begin", 3, 2), ("acts", 0), ("acts", 2), ("actis", 0, 0),
            ("act", 0, [1, 2, 3, 4, 5]), ("actis", 0, 0), ("begin", 2, 1), ("acts", 0), ("acts", 2))
        self.assertEqual(told[4:], [
            [0], [0], [0], [-2], [0], [0, 0, 1, 2, 3, 4, 5], [0], [0], [-2]])

    def test_again_of_the_same_size(self):
        self.assertEqual(last(("begin", 2, 1), ("act", 0, [1, 1, 1]), ("begin", 2, 1), ("acts", 0)), [0])

    def test_a_refused_one_changes_nothing(self):
        told = replies(
            ("begin", 2, 1), ("act", 0, [1, 1, 1]), ("turn", 0, 0, 1), ("lock", 0, 0, 1),
            ("begin", 3, 4), ("begin", 5, 2), ("begin", 0, 0),
            ("actis", 0, 0), ("acts", 0), ("acts", 2), ("worth", 1, 0, 0, 0, 1))
        self.assertEqual(told[4:], [[-22], [-22], [-22], [1, 1, 1, 1, 1], [1], [-2], [-2]])


class NotBegun(unittest.TestCase):
    # With each call what would be let, and what would be refused, were it begun.
    CALLS = (
        ("act", 0, [1, 1, 1]), ("act", 9, []), ("act", 0, [HUGE] * 9),
        ("unact", 0, 0), ("unact", BIG, BIG), ("turn", 0, 0, 0), ("turn", 9, 9, 9),
        ("lock", 0, 0, 0), ("lock", 9, 9, 9), ("actis", 0, 0), ("actis", 9, 9),
        ("acts", 0), ("acts", BIG), ("does", 0, 0, 0, 1), ("does", 9, 9, 9, 9),
        ("bests", 0, 0, 0, 1), ("bests", 9, 9, 9, 9), ("worth", 0, 0, 0, 0, 0), ("worth", 9, 9, 9, 9, 9),
        ("brings", 0, 0, 0, 0, 0, 1), ("lights", 0, 0, 0, 1), ("ideal", 0, 0, 1), ("short", 0, 0, 0, 1),
        ("after", 0, 0, 0, 1), ("selves", 0, 0, 0, 1), ("turns", 0, 1), ("never", 0, 1),
        ("ifturn", 0, 0, 0, 0, 0, 1), ("ifpay", 0, 0, 0, 0, 0, 1, [1]),
        ("ifpay", 0, 0, 0, 0, 0, 1, []), ("ifpay", 9, 9, 9, 9, 9, 9, [HUGE, -HUGE, 0, 1]),
        ("brings", 9, 9, 9, 9, 9, 9), ("lights", 9, 9, 9, 9), ("ideal", 9, 9, 9), ("short", 9, 9, 9, 9),
        ("after", 9, 9, 9, 9), ("selves", 9, 9, 9, 9), ("turns", BIG, 0), ("never", BIG, BIG),
        ("ifturn", 9, 9, 9, 9, 9, 9),
    )

    def test_each_call_alone(self):
        for call in self.CALLS:
            with self.subTest(call=call):
                self.assertEqual(replies(call), [[-11]])

    def test_one_behind_another(self):
        self.assertEqual(replies(*self.CALLS), [[-11]] * len(self.CALLS))

    def test_till_a_begin_is_answered_0(self):
        told = replies(("acts", 0), ("begin", 1, 1), ("acts", 0), ("begin", 2, 0), ("act", 0, [1, 1, 1]),
                       ("begin", 2, 1), ("acts", 0))
        self.assertEqual(told, [[-11], [-22], [-11], [-22], [-11], [0], [0]])


class AddAct(unittest.TestCase):
    def test_numbers_at_each_place(self):
        row = [1, 1, 1]
        told = replies(("begin", 2, 1), ("act", 0, row), ("act", 1, row), ("act", 0, row), ("act", 0, row),
                       ("act", 1, row), ("acts", 0), ("acts", 1))
        self.assertEqual(told, [[0], [0], [0], [1], [2], [1], [3], [2]])

    def test_neither_turns_nor_locks(self):
        self.assertEqual(last(("begin", 3, 2), ("act", 2, [-9, 9, 0, 9, 4]), ("actis", 2, 0)),
                         [0, 0, -9, 9, 0, 9, 4])

    def test_widest_row(self):
        row = [-9, 0, 9, 9, 9, 9, 9]
        self.assertEqual(last(("begin", 4, 3), ("act", 3, row), ("actis", 3, 0)), [0, 0] + row)

    def test_no_such_place(self):
        for place in (2, 3, BIG):
            self.assertEqual(last(("begin", 2, 1), ("act", place, [1, 1, 1])), [-2])

    def test_wrong_lengths(self):
        row = [1, 1, 1, 1, 1, 1, 1, 1, 1]
        for places in (2, 3, 4):
            for selves in (1, 2, 3):
                for length in range(10):
                    with self.subTest(places=places, selves=selves, length=length):
                        told = replies(("begin", places, selves), ("act", 0, row[:length]), ("acts", 0))
                        right = length == places + selves
                        self.assertEqual(told[1:], [[0], [1]] if right else [[-22], [0]])

    def test_pays_out_of_range(self):
        for pay in (-10, 10, -HUGE, HUGE):
            for at in (0, 1):
                row = [1, 1, 1, 1]
                row[at] = pay
                self.assertEqual(replies(("begin", 2, 2), ("act", 0, row), ("acts", 0)), [[0], [-22], [0]])

    def test_weights_out_of_range(self):
        for weight in (-1, 10, -HUGE, HUGE):
            for at in (2, 3):
                row = [1, 1, 9, 9]
                row[at] = weight
                self.assertEqual(replies(("begin", 2, 2), ("act", 0, row), ("acts", 0)), [[0], [-22], [0]])

    def test_weights_all_0(self):
        self.assertEqual(last(("begin", 2, 1), ("act", 0, [5, 0, 0])), [-22])
        self.assertEqual(last(("begin", 4, 1), ("act", 0, [0, 0, 0, 0, 0])), [-22])
        self.assertEqual(last(("begin", 2, 1), ("act", 0, [0, 0, 1])), [0])

    def test_a_fourth(self):
        row = [1, 1, 1]
        told = replies(("begin", 2, 1), ("act", 1, row), ("act", 1, row), ("act", 1, row),
                       ("act", 1, [2, 2, 2]), ("acts", 1), ("actis", 1, 2), ("act", 0, row),
                       ("unact", 1, 0), ("act", 1, [2, 2, 2]))
        self.assertEqual(told[4:], [[-28], [3], [0, 0, 1, 1, 1], [0], [2], [2]])

    def test_order_of_refusals(self):
        full = [("begin", 2, 1)] + [("act", p, [1, 1, 1]) for p in (0, 0, 0, 1, 1, 1)]
        self.assertEqual(last(*full, ("act", 2, [])), [-2])
        self.assertEqual(last(*full, ("act", 2, [1, 1, 1])), [-2])
        self.assertEqual(last(*full, ("act", 1, [])), [-22])
        self.assertEqual(last(*full, ("act", 1, [10, 1, 1])), [-22])
        self.assertEqual(last(*full, ("act", 1, [1, 0, 0])), [-22])
        self.assertEqual(last(*full, ("act", 1, [1, 1, 1])), [-28])


class Unact(unittest.TestCase):
    THREE = (("begin", 2, 1), ("act", 0, [1, 1, 0]), ("act", 0, [2, 1, 0]), ("act", 0, [3, 1, 0]),
             ("act", 1, [4, 1, 0]), ("turn", 0, 1, 1), ("lock", 0, 2, 1))

    def test_those_behind_are_numbered_one_less(self):
        one, two, three = [0, 0, 1, 1, 0], [1, 0, 2, 1, 0], [0, 1, 3, 1, 0]
        for number, left in ((0, [two, three]), (1, [one, three]), (2, [one, two])):
            told = replies(*self.THREE, ("unact", 0, number), ("actis", 0, 0), ("actis", 0, 1),
                           ("actis", 0, 2), ("acts", 0), ("acts", 1))
            self.assertEqual(told[7:], [[2]] + left + [[-2], [2], [1]])

    def test_till_none_is_left(self):
        told = replies(*self.THREE, ("unact", 0, 0), ("unact", 0, 0), ("unact", 0, 0), ("unact", 0, 0))
        self.assertEqual(told[7:], [[2], [1], [0], [-2]])

    def test_a_new_one_stands_last(self):
        told = replies(*self.THREE, ("unact", 0, 0), ("act", 0, [5, 1, 1]), ("actis", 0, 2), ("actis", 0, 0))
        self.assertEqual(told[8:], [[2], [0, 0, 5, 1, 1], [1, 0, 2, 1, 0]])

    def test_what_is_done_is_numbered_anew(self):
        told = replies(*self.THREE, ("does", 0, 0, 0, 1), ("unact", 0, 0), ("does", 0, 0, 0, 1))
        self.assertEqual([told[7], told[9]], [[2], [1]])

    def test_refusals(self):
        for place, number in ((2, 0), (BIG, 0), (0, 3), (1, 1), (0, BIG), (2, 9)):
            told = replies(*self.THREE, ("unact", place, number), ("acts", 0), ("acts", 1))
            self.assertEqual(told[7:], [[-2], [3], [1]])


class Turn(unittest.TestCase):
    START = (("begin", 2, 2), ("act", 0, [1, 2, 3, 4]), ("act", 0, [5, 6, 7, 8]))

    def test_what_it_was(self):
        told = replies(*self.START, ("turn", 0, 0, 2), ("turn", 0, 0, 1), ("turn", 0, 0, 1), ("turn", 0, 0, 0),
                       ("turn", 0, 0, 0), ("turn", 0, 1, 2), ("actis", 0, 0), ("actis", 0, 1))
        self.assertEqual(told[3:], [[0], [2], [1], [1], [0], [0], [0, 0, 1, 2, 3, 4], [2, 0, 5, 6, 7, 8]])

    def test_as_many_as_selves(self):
        for selves in (1, 2, 3):
            start = (("begin", 2, selves), ("act", 1, [0] * selves + [1, 1]))
            for into in range(6):
                told = replies(*start, ("turn", 1, 0, into), ("turn", 1, 0, 0))
                self.assertEqual(told[2:], [[0], [into]] if into <= selves else [[-22], [0]])

    def test_refusals_and_their_order(self):
        for place, number, into, due in ((2, 0, 0, -2), (0, 2, 0, -2), (1, 0, 1, -2), (BIG, BIG, BIG, -2),
                                         (2, 0, 3, -2), (0, 2, 3, -2), (0, 0, 3, -22), (0, 1, BIG, -22)):
            told = replies(*self.START, ("turn", 0, 0, 1), ("turn", place, number, into),
                           ("actis", 0, 0), ("actis", 0, 1))
            self.assertEqual(told[4:], [[due], [1, 0, 1, 2, 3, 4], [0, 0, 5, 6, 7, 8]])


class Lock(unittest.TestCase):
    START = (("begin", 2, 1), ("act", 0, [1, 2, 3]), ("act", 0, [4, 5, 6]))

    def test_what_it_was(self):
        told = replies(*self.START, ("lock", 0, 0, 1), ("lock", 0, 0, 1), ("lock", 0, 0, 0), ("lock", 0, 0, 0),
                       ("lock", 0, 1, 1), ("actis", 0, 0), ("actis", 0, 1))
        self.assertEqual(told[3:], [[0], [1], [1], [0], [0], [0, 0, 1, 2, 3], [0, 1, 4, 5, 6]])

    def test_turns_and_locks(self):
        self.assertEqual(last(*self.START, ("lock", 0, 0, 1), ("turn", 0, 0, 1), ("actis", 0, 0)),
                         [1, 1, 1, 2, 3])

    def test_refusals_and_their_order(self):
        for place, number, locks, due in ((2, 0, 0, -2), (0, 2, 1, -2), (1, 0, 1, -2), (2, 0, 2, -2),
                                          (0, 2, 2, -2), (0, 0, 2, -22), (0, 1, BIG, -22)):
            told = replies(*self.START, ("lock", 0, 0, 1), ("lock", place, number, locks),
                           ("actis", 0, 0), ("actis", 0, 1))
            self.assertEqual(told[4:], [[due], [0, 1, 1, 2, 3], [0, 0, 4, 5, 6]])


class Tell(unittest.TestCase):
    START = (("begin", 3, 2), ("act", 1, [-1, 2, 3, 4, 5]))

    def test_actis(self):
        told = replies(*self.START, ("turn", 1, 0, 2), ("lock", 1, 0, 1), ("actis", 1, 0))
        self.assertEqual(told[-1], [2, 1, -1, 2, 3, 4, 5])

    def test_actis_refusals(self):
        for place, number in ((3, 0), (BIG, BIG), (1, 1), (0, 0), (1, BIG)):
            self.assertEqual(last(*self.START, ("actis", place, number)), [-2])

    def test_acts(self):
        told = replies(*self.START, *[("acts", p) for p in (0, 1, 2, 3, BIG)])
        self.assertEqual(told[2:], [[0], [1], [0], [-2], [-2]])


if __name__ == "__main__":
    unittest.main()
