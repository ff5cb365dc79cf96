"""after, selves, turns, never: by hand, at ordinary inputs, at the document's corners, and refused."""

import unittest
from fractions import Fraction

from tests.lines import last, replies

BIG = 4294967295

# What pays self 0 most turns it into self 1; it does so with the last step alone.
TEMPTED = (("begin", 2, 2), ("act", 0, [1, -1, 1, 0]), ("act", 0, [-1, 1, 1, 0]), ("act", 0, [2, 0, 1, 0]),
           ("turn", 0, 2, 2))

# Staying pays 1; turning and going on to place 2 pays 3 in all, a step late: best with just 2 steps left.
ONLY_WITH_TWO = (("begin", 3, 2), ("act", 0, [1, 0, 1, 0, 0]), ("act", 0, [0, 0, 0, 1, 0]), ("turn", 0, 1, 2),
                 ("act", 1, [3, 0, 0, 0, 1]))

# Half of the time it goes on to place 1, where there's no act.
HALVES = (("begin", 2, 1), ("act", 0, [0, 3, 3]))


def likely(answer):
    """What after or selves answered, as fractions."""
    assert len(answer) == 1 + 2 * answer[0]
    return [Fraction(answer[at], answer[at + 1]) for at in range(1, len(answer), 2)]


def surely(how_many, at):
    """The answer that the stand, or the self, with this number is sure."""
    told = [how_many]
    for number in range(how_many):
        told += [1 if number == at else 0, 1]
    return told


def number_of(selves, place, who, locked):
    """A stand's number in the order of stands."""
    return (place * selves + who) * 2 + locked


class After(unittest.TestCase):
    def test_0_steps(self):
        for place in (0, 1, 2):
            for who in (0, 1):
                for locked in (0, 1):
                    told = last(*ONLY_WITH_TWO, ("after", place, who, locked, 0))
                    self.assertEqual(told, surely(12, number_of(2, place, who, locked)))

    def test_stands_in_their_order(self):
        # No acts anywhere, so it stays as it stands, and the stands come one behind another.
        for places in (2, 3, 4):
            for selves in (1, 2, 3):
                calls = [("after", p, s, l, 1) for p in range(places) for s in range(selves) for l in (0, 1)]
                told = replies(("begin", places, selves), *calls)[1:]
                self.assertEqual(told, [surely(len(calls), number) for number in range(len(calls))])

    def test_as_likely_as_the_weights(self):
        told = replies(("begin", 3, 1), ("act", 0, [0, 2, 1, 6]), ("act", 1, [0, 0, 4, 4]),
                       ("after", 0, 0, 0, 1), ("after", 0, 0, 0, 2))
        self.assertEqual(told[3], [6, 2, 9, 0, 1, 1, 9, 0, 1, 2, 3, 0, 1])
        self.assertEqual(told[4], [6, 4, 81, 0, 1, 13, 162, 0, 1, 47, 54, 0, 1])

    def test_where_there_is_no_act_it_stays(self):
        told = replies(*HALVES, *[("after", 0, 0, 0, k) for k in range(5)], ("after", 1, 0, 0, 4), ("after", 1, 0, 1, 3))
        self.assertEqual(told[2:7], [[4, 1, 2 ** k, 0, 1, 2 ** k - 1, 2 ** k if k else 1, 0, 1] for k in range(5)])
        self.assertEqual(told[7:], [surely(4, 2), surely(4, 3)])

    def test_with_each_step_one_less_is_left(self):
        told = replies(*ONLY_WITH_TWO, *[("after", 0, 0, 0, k) for k in (1, 2, 3, 4)])
        at_end = surely(12, number_of(2, 2, 1, 0))
        self.assertEqual(told[5:], [surely(12, 0), at_end, at_end, at_end])

    def test_it_turns(self):
        told = replies(*TEMPTED, *[("after", 0, 0, 0, k) for k in (1, 2, 3, 4)])
        self.assertEqual(told[5:], [surely(8, number_of(2, 0, 1, 0))] * 4)

    def test_locked_it_stays_who_it_is(self):
        told = replies(*TEMPTED, *[("after", 0, s, 1, k) for s in (0, 1) for k in (1, 4)])
        self.assertEqual(told[5:], [surely(8, 1)] * 2 + [surely(8, 3)] * 2)

    def test_an_act_that_locks(self):
        told = replies(*HALVES, ("lock", 0, 0, 1), ("after", 0, 0, 0, 1), ("after", 0, 0, 0, 2), ("after", 0, 0, 1, 1))
        self.assertEqual(told[3:], [[4, 0, 1, 1, 2, 0, 1, 1, 2], [4, 0, 1, 1, 4, 0, 1, 3, 4], [4, 0, 1, 1, 2, 0, 1, 1, 2]])

    def test_an_act_that_turns_and_locks(self):
        told = replies(*TEMPTED, ("lock", 0, 2, 1), ("after", 0, 0, 0, 1), ("after", 0, 0, 1, 1))
        self.assertEqual(told[6:], [surely(8, number_of(2, 0, 1, 1)), surely(8, number_of(2, 0, 0, 1))])

    def test_two_acts_as_good_one_of_which_turns(self):
        for turning, who in ((0, 1), (1, 0)):
            told = last(("begin", 2, 2), ("act", 0, [1, 0, 0, 1]), ("act", 0, [1, 0, 0, 1]), ("turn", 0, turning, 2),
                        ("after", 0, 0, 0, 1))
            self.assertEqual(told, surely(8, number_of(2, 1, who, 0)))

    def test_ways_come_together(self):
        # By place 1 and by place 2 it comes to place 3.
        told = last(("begin", 4, 1), ("act", 0, [0, 0, 1, 2, 0]), ("act", 1, [0, 0, 0, 0, 9]),
                    ("act", 2, [0, 1, 0, 0, 1]), ("after", 0, 0, 0, 2))
        self.assertEqual(told, [8, 1, 3, 0, 1, 0, 1, 0, 1, 0, 1, 0, 1, 2, 3, 0, 1])

    def test_it_is_surely_somewhere(self):
        start = (("begin", 4, 3), ("act", 0, [1, 2, 3, 7, 5, 3, 1]), ("turn", 0, 0, 2), ("act", 1, [3, 2, 1, 2, 0, 9, 8]),
                 ("act", 1, [2, 2, 2, 1, 1, 1, 1]), ("turn", 1, 0, 3), ("lock", 1, 1, 1), ("act", 3, [0, 0, 0, 5, 6, 7, 8]))
        calls = [("after", p, s, 0, k) for p in range(4) for s in range(3) for k in (1, 3, 4)]
        for answer in replies(*start, *calls)[len(start):]:
            self.assertEqual(answer[0], 24)
            self.assertEqual(sum(likely(answer)), 1)


class Selves(unittest.TestCase):
    def test_who_it_is_in_the_end(self):
        told = replies(*ONLY_WITH_TWO, *[("selves", 0, 0, 0, k) for k in range(5)], ("selves", 0, 1, 0, 4))
        self.assertEqual(told[5:], [surely(2, 0)] * 2 + [surely(2, 1)] * 4)

    def test_a_fraction_for_each(self):
        # At place 1 it turns into self 2, and a third of the time it comes there.
        start = (("begin", 2, 3), ("act", 0, [0, 0, 0, 2, 1]), ("act", 1, [0, 0, 0, 0, 1]), ("turn", 1, 0, 3))
        told = replies(*start, *[("selves", 0, 0, 0, k) for k in range(5)], ("selves", 0, 1, 0, 3))
        self.assertEqual(told[4:9], [surely(3, 0), surely(3, 0), [3, 2, 3, 0, 1, 1, 3], [3, 4, 9, 0, 1, 5, 9],
                                     [3, 8, 27, 0, 1, 19, 27]])
        self.assertEqual(told[9], [3, 0, 1, 4, 9, 5, 9])

    def test_locked_or_not_is_one_self(self):
        told = last(("begin", 2, 2), ("act", 0, [0, 0, 1, 1]), ("act", 1, [0, 0, 0, 1]), ("lock", 1, 0, 1),
                    ("selves", 0, 1, 0, 2))
        self.assertEqual(told, surely(2, 1))

    def test_locked_it_stays_who_it_is(self):
        told = replies(*TEMPTED, *[("selves", 0, s, 1, k) for s in (0, 1) for k in range(5)])
        self.assertEqual(told[5:], [surely(2, 0)] * 5 + [surely(2, 1)] * 5)

    def test_one_self_and_no_acts(self):
        told = replies(*HALVES, *[("selves", p, 0, l, k) for p in (0, 1) for l in (0, 1) for k in (0, 3)])
        self.assertEqual(told[2:], [[1, 1, 1]] * 8)
        self.assertEqual(last(*ONLY_WITH_TWO, ("selves", 2, 0, 0, 4)), surely(2, 0))

    def test_a_self_that_is_turned_back(self):
        # Self 0 turns into self 1 at place 0, self 1 into self 0 at place 1.
        start = (("begin", 2, 2), ("act", 0, [1, 1, 0, 1]), ("turn", 0, 0, 2), ("act", 1, [1, 1, 1, 0]), ("turn", 1, 0, 1))
        told = replies(*start, *[("selves", 0, 0, 0, k) for k in range(5)])
        self.assertEqual(told[5:], [surely(2, k % 2) for k in range(5)])


class Turns(unittest.TestCase):
    def test_what_is_done_changes_with_the_steps(self):
        told = replies(*ONLY_WITH_TWO, *[("turns", s, k) for s in (0, 1) for k in (1, 2, 3, 4)])
        self.assertEqual(told[5:], [[0], [1, 0], [0], [0]] + [[0]] * 4)
        told = replies(*TEMPTED, *[("turns", s, k) for s in (0, 1) for k in (1, 2, 3, 4)])
        self.assertEqual(told[5:], [[1, 0], [0], [0], [0]] + [[0]] * 4)

    def test_places_rise(self):
        start = (("begin", 4, 2), ("act", 3, [0, 0, 1, 0, 0, 0]), ("turn", 3, 0, 2), ("act", 0, [0, 0, 1, 0, 0, 0]),
                 ("turn", 0, 0, 2), ("act", 2, [0, 0, 1, 0, 0, 0]), ("turn", 2, 0, 1))
        self.assertEqual(replies(*start, ("turns", 0, 1), ("turns", 1, 1))[7:], [[2, 0, 3], [1, 2]])

    def test_at_every_place(self):
        start = [("begin", 4, 3)]
        for place in range(4):
            start += [("act", place, [0, 0, 0, 1, 1, 1, 1]), ("turn", place, 0, 1 + place % 3)]
        told = replies(*start, ("turns", 0, 4), ("turns", 1, 4), ("turns", 2, 4))
        self.assertEqual(told[9:], [[2, 1, 2], [3, 0, 2, 3], [3, 0, 1, 3]])

    def test_into_oneself_is_no_turning(self):
        told = replies(("begin", 2, 1), ("act", 0, [1, 1, 0]), ("turn", 0, 0, 1), ("turns", 0, 1), ("turns", 0, 4),
                       ("never", 0, 4))
        self.assertEqual(told[3:], [[0], [0], [1]])
        # Act 2 turns into self 1 whoever does it, and self 1 does it once it pays it more.
        told = replies(*TEMPTED, ("unact", 0, 1), ("unact", 0, 0), ("does", 0, 1, 0, 1), ("turns", 1, 1), ("turns", 0, 1))
        self.assertEqual(told[7:], [[0], [0], [1, 0]])

    def test_an_act_that_is_not_done(self):
        told = replies(("begin", 2, 2), ("act", 0, [1, 1, 1, 0]), ("act", 0, [0, 2, 1, 0]), ("turn", 0, 1, 2),
                       ("turns", 0, 1), ("turns", 1, 1), ("turn", 0, 1, 1), ("turns", 0, 1), ("turns", 1, 1))
        self.assertEqual(told[4:], [[0], [0], [2], [0], [1, 0]])

    def test_of_acts_as_good_the_first(self):
        for turning, found in ((0, [1, 0]), (1, [0])):
            told = last(("begin", 2, 2), ("act", 0, [1, 0, 1, 0]), ("act", 0, [1, 0, 1, 0]), ("turn", 0, turning, 2),
                        ("turns", 0, 1))
            self.assertEqual(told, found)

    def test_it_asks_of_one_that_is_not_locked(self):
        self.assertEqual(last(*TEMPTED, ("lock", 0, 2, 1), ("turns", 0, 1)), [1, 0])

    def test_no_acts(self):
        self.assertEqual(last(("begin", 4, 3), ("turns", 2, 4)), [0])


class Never(unittest.TestCase):
    def test_0_steps(self):
        self.assertEqual(replies(*TEMPTED, ("never", 0, 0), ("never", 1, 0))[5:], [[1], [1]])

    def test_with_only_one_number_of_steps_it_turns(self):
        told = replies(*ONLY_WITH_TWO, *[("never", s, k) for s in (0, 1) for k in range(5)])
        self.assertEqual(told[5:], [[1], [1], [0], [0], [0]] + [[1]] * 5)
        told = replies(*TEMPTED, *[("never", s, k) for s in (0, 1) for k in range(5)])
        self.assertEqual(told[5:], [[1], [0], [0], [0], [0]] + [[1]] * 5)

    def test_with_the_most_steps_alone(self):
        # Turning leads by places 1 and 2 to place 3, three steps on, where 9 is paid.
        start = (("begin", 4, 2), ("act", 0, [0, 0, 1, 0, 0, 0]), ("act", 0, [0, 0, 0, 1, 0, 0]), ("turn", 0, 1, 2),
                 ("act", 1, [0, 0, 0, 0, 1, 0]), ("act", 2, [0, 0, 0, 0, 0, 1]), ("act", 3, [9, 0, 0, 0, 0, 1]))
        told = replies(*start, *[("never", 0, k) for k in range(5)], *[("turns", 0, k) for k in (3, 4)])
        self.assertEqual(told[7:], [[1], [1], [1], [1], [0], [0], [1, 0]])

    def test_at_any_place(self):
        told = replies(("begin", 3, 2), ("act", 2, [0, 0, 1, 0, 0]), ("turn", 2, 0, 1), ("never", 0, 4), ("never", 1, 4))
        self.assertEqual(told[3:], [[1], [0]])

    def test_no_acts(self):
        self.assertEqual(last(("begin", 2, 3), ("never", 2, 4)), [1])


class Refusals(unittest.TestCase):
    def test_of_stands(self):
        for name in ("after", "selves"):
            for call, due in (
                    ((2, 0, 0, 1), -2), ((0, 2, 0, 1), -2), ((BIG, 0, 0, 1), -2), ((0, BIG, 0, 1), -2),
                    ((0, 0, 2, 1), -22), ((0, 0, BIG, 1), -22), ((0, 0, 0, 5), -22), ((0, 0, 1, BIG), -22),
                    ((2, 0, 2, 1), -2), ((2, 0, 0, 5), -2), ((0, 2, 2, 5), -2)):
                with self.subTest(name=name, call=call):
                    self.assertEqual(last(*TEMPTED, (name,) + call), [due])

    def test_of_selves(self):
        for name in ("turns", "never"):
            for call, due in (((2, 1), -2), ((BIG, 1), -2), ((0, 5), -22), ((1, BIG), -22), ((2, 5), -2), ((2, 0), -2)):
                with self.subTest(name=name, call=call):
                    self.assertEqual(last(*TEMPTED, (name,) + call), [due])

    def test_0_steps(self):
        told = replies(*TEMPTED, ("turns", 0, 0), ("never", 0, 0), ("after", 0, 0, 0, 0), ("selves", 0, 0, 0, 0))
        self.assertEqual(told[5:], [[-22], [1], surely(8, 0), surely(2, 0)])

    def test_they_change_nothing(self):
        told = replies(*TEMPTED, ("after", 0, 0, 0, 4), ("selves", 0, 0, 0, 4), ("turns", 0, 1), ("never", 0, 4),
                       ("after", 0, 0, 0, 5), ("selves", 0, 2, 0, 4), ("turns", 0, 0), ("never", 2, 4),
                       *[("actis", 0, a) for a in (0, 1, 2)], ("acts", 0), ("acts", 1), ("does", 0, 0, 0, 1))
        self.assertEqual(told[9:], [[-22], [-2], [-22], [-2], [0, 0, 1, -1, 1, 0], [0, 0, -1, 1, 1, 0],
                                    [2, 0, 2, 0, 1, 0], [3], [0], [2]])


if __name__ == "__main__":
    unittest.main()
