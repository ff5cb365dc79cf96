"""How calls and answers stand in their lists, and that nothing is changed or kept."""

import unittest

import selveshelper.turning
from selveshelper.turning import answers

SHORT = [0, 2, 1, 1, 0, 3, 5, 1, 0, 3, 0, 0, 1, 4, 0, 0, 1, 5, 0, 0, 6, 0, 7, 0, 0, 0, 2,
         8, 0, 0, 0, 2, 9, 0, 0, 0, 0, 2, 2, 0, 0]

# Two places, two selves, one act, that turns self 0 into self 1; then the calls 10 to 19, one behind another.
LATER = [0, 2, 2, 1, 0, 4, 5, -3, 1, 1, 3, 0, 0, 2,
         10, 1, 0, 0, 0, 0, 2, 11, 0, 0, 0, 1, 12, 0, 0, 2, 13, 0, 0, 0, 1, 14, 0, 0, 0, 1, 15, 0, 0, 0, 1,
         16, 0, 1, 17, 1, 4, 18, 0, 0, 0, 0, 1, 1, 19, 0, 0, 1, 0, 1, 2, 1, 7, 19, 0, 0, 1, 0, 1, 2, 0,
         19, 0, 0, 1, 0, 1, 2, 4, 7, 7, 7, 7, 6, 0]


class Untouchable(list):
    """A list that fails if it is changed, for however short a while."""

    def refuse(self, *args, **kwargs):
        raise AssertionError("what is handed in was changed")

    append = clear = extend = insert = pop = remove = reverse = sort = refuse
    __setitem__ = __delitem__ = __iadd__ = __imul__ = refuse


def fullest(asked):
    """60 calls, with as many acts and steps as are let; asked gives the numbers of each call that asks."""
    calls = [0, 4, 3]
    for place in range(4):
        for number in range(3):
            calls += [1, place, 7, 9, -9, number, 1 + number, 9, 7, place, 3, place, number, (place + number) % 4]
    for number in range(35):
        calls += asked(number)
    return calls


def worth_asked(number):
    return [9, number % 3, number % 4, number % 3, 0, 4]


def after_asked(number):
    return [14, number % 4, number % 3, 0, 4]


def ifpay_asked(number):
    return [19, number % 4, number % 3, number % 2, 0, number % 3, 4, 1, number % 19 - 9]


class Lists(unittest.TestCase):
    def test_number_by_number(self):
        self.assertEqual(answers(SHORT), [
            1, 0, 1, 0, 1, 0, 1, 0, 5, 1, 1, 5, 1, 0, 1, 1, 1, 0, 2, 1, 0, 3, 0, 10, 1, 1, 0])

    def test_the_later_calls_number_by_number(self):
        self.assertEqual(answers(LATER), [
            1, 0, 1, 0, 1, 0, 3, 0, -9, 2, 5, 2, 5, 1, -3, 1, 3, 0, 15, 2, 3, 0, 0, 1,
            17, 8, 0, 1, 0, 1, 1, 2, 0, 1, 0, 1, 0, 1, 1, 2, 0, 1, 5, 2, 0, 1, 1, 1, 2, 1, 0, 1, 1,
            3, 0, -3, 1, 3, 0, 21, 2, 1, -22, 1, -22, 1, 1])

    def test_one_call(self):
        self.assertEqual(answers([0, 2, 1]), [1, 0])
        self.assertEqual(answers([6, 0]), [1, -11])

    def test_empty_row(self):
        self.assertEqual(answers([0, 2, 1, 1, 0, 0, 6, 0]), [1, 0, 1, -22, 1, 0])

    def test_widest_rows(self):
        far = 10 ** 30
        self.assertEqual(answers([0, 2, 1, 1, 0, 9] + [far, -far, 0] * 3 + [6, 0]), [1, 0, 1, -22, 1, 0])

    def test_whole_numbers_alone(self):
        for calls in (SHORT, LATER):
            told = answers(calls)
            self.assertIs(type(told), list)
            self.assertEqual({type(number) for number in told}, {int})

    def test_sixty_calls(self):
        for asked, length in ((worth_asked, 4), (after_asked, 1 + 1 + 24 * 2), (ifpay_asked, 4)):
            calls = fullest(asked)
            self.assertLessEqual(len(calls), 720)
            self.assertEqual(len(answers(calls)), 25 * 2 + 35 * length)


class NothingKept(unittest.TestCase):
    def test_handed_in_stays_as_it_was(self):
        for calls in (SHORT, LATER, fullest(worth_asked), fullest(after_asked), fullest(ifpay_asked)):
            before = list(calls)
            answers(calls)
            self.assertEqual(calls, before)
            self.assertEqual(answers(Untouchable(calls)), answers(before))

    def test_given_back_is_its_own(self):
        told = answers(SHORT)
        right = list(told)
        told.clear()
        self.assertEqual(answers(SHORT), right)

    def test_a_second_time(self):
        for calls in (SHORT, LATER, fullest(worth_asked), fullest(after_asked), fullest(ifpay_asked)):
            first = answers(calls)
            self.assertEqual(answers([6, 0]), [1, -11])
            self.assertEqual(answers(calls), first)

    def test_in_the_very_file(self):
        self.assertEqual(selveshelper.turning.answers.__module__, "selveshelper.turning")
        self.assertEqual(selveshelper.turning.answers.__code__.co_varnames[:1], ("calls",))
        self.assertEqual(selveshelper.turning.answers.__code__.co_argcount, 1)


if __name__ == "__main__":
    unittest.main()
