"""How calls and answers stand in their lists, and that nothing is changed or kept."""

import unittest

import selveshelper.turning
from selveshelper.turning import answers

SHORT = [0, 2, 1, 1, 0, 3, 5, 1, 0, 3, 0, 0, 1, 4, 0, 0, 1, 5, 0, 0, 6, 0, 7, 0, 0, 0, 2,
         8, 0, 0, 0, 2, 9, 0, 0, 0, 0, 2, 2, 0, 0]


class Untouchable(list):
    """A list that fails if it is changed, for however short a while."""

    def refuse(self, *args, **kwargs):
        raise AssertionError("what is handed in was changed")

    append = clear = extend = insert = pop = remove = reverse = sort = refuse
    __setitem__ = __delitem__ = __iadd__ = __imul__ = refuse


def fullest():
    """60 calls, with as many acts and steps as are let."""
    calls = [0, 4, 3]
    for place in range(4):
        for number in range(3):
            calls += [1, place, 7, 9, -9, number, 1 + number, 9, 7, place, 3, place, number, (place + number) % 4]
    for number in range(35):
        calls += [9, number % 3, number % 4, number % 3, 0, 4]
    return calls


class Lists(unittest.TestCase):
    def test_number_by_number(self):
        self.assertEqual(answers(SHORT), [
            1, 0, 1, 0, 1, 0, 1, 0, 5, 1, 1, 5, 1, 0, 1, 1, 1, 0, 2, 1, 0, 3, 0, 10, 1, 1, 0])

    def test_one_call(self):
        self.assertEqual(answers([0, 2, 1]), [1, 0])
        self.assertEqual(answers([6, 0]), [1, -11])

    def test_empty_row(self):
        self.assertEqual(answers([0, 2, 1, 1, 0, 0, 6, 0]), [1, 0, 1, -22, 1, 0])

    def test_widest_rows(self):
        far = 10 ** 30
        self.assertEqual(answers([0, 2, 1, 1, 0, 9] + [far, -far, 0] * 3 + [6, 0]), [1, 0, 1, -22, 1, 0])

    def test_whole_numbers_alone(self):
        told = answers(SHORT)
        self.assertIs(type(told), list)
        self.assertEqual({type(number) for number in told}, {int})

    def test_sixty_calls(self):
        calls = fullest()
        self.assertLessEqual(len(calls), 720)
        self.assertEqual(len(answers(calls)), 25 * 2 + 35 * 4)


class NothingKept(unittest.TestCase):
    def test_handed_in_stays_as_it_was(self):
        for calls in (SHORT, fullest()):
            before = list(calls)
            answers(calls)
            self.assertEqual(calls, before)
            self.assertEqual(answers(Untouchable(calls)), answers(before))

    def test_given_back_is_its_own(self):
        told = answers(SHORT)
        right = list(told)
        told.clear()
        self.assertEqual(answers(SHORT), right)

    def test_a_second_time(self):
        for calls in (SHORT, fullest()):
            first = answers(calls)
            self.assertEqual(answers([6, 0]), [1, -11])
            self.assertEqual(answers(calls), first)

    def test_in_the_very_file(self):
        self.assertEqual(selveshelper.turning.answers.__module__, "selveshelper.turning")
        self.assertEqual(selveshelper.turning.answers.__code__.co_varnames[:1], ("calls",))
        self.assertEqual(selveshelper.turning.answers.__code__.co_argcount, 1)


if __name__ == "__main__":
    unittest.main()
