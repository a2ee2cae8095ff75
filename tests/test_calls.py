"""large, device and search, and the form of what is handed in and given back."""

import unittest

from pinballs.balls import answers
from tests.helper import FULL, LOCK, PAIR, SAUCER, TROUGH, ask, begin, still, ticks


class BeforeABegin(unittest.TestCase):
    def test_nothing_is_begun(self):
        for call in (ticks([]), ticks([(1, 1)]), [3], [4, 0], [5]):
            self.assertEqual(ask(call), [[-10]])

    def test_told_before_all_else(self):
        self.assertEqual(ask(ticks(still(0, 4097))), [[-10]])
        self.assertEqual(ask(ticks([(1 << 63, 1 << 63)])), [[-10]])
        self.assertEqual(ask([4, 4294967295]), [[-10]])

    def test_begun_afterwards(self):
        self.assertEqual(ask([3], begin(PAIR, 3), [3]), [[-10], [0], [0, 0, 2, 0]])


class Large(unittest.TestCase):
    def test_at_the_beginning(self):
        for mask, large, held in ((0, 3, 0), (TROUGH, 0, 3), (1 + LOCK, 0, 3), (SAUCER, 2, 1)):
            self.assertEqual(ask(begin(FULL, mask), [3])[1], [0, large, held, 0])

    def test_devices_show_more_than_there_are(self):
        self.assertEqual(ask(begin(FULL, TROUGH + LOCK + SAUCER), [3])[1], [0, 0, 6, 0])

    def test_after_ticks(self):
        given = ask(begin(FULL, TROUGH), ticks(still(3, 128)), [3], ticks(still(3, 1)), [3],
                    ticks(still(3 + SAUCER, 129)), [3])
        self.assertEqual(given[2::2], [[0, 0, 3, 0], [0, 1, 2, 0], [0, 0, 3, 0]])


class Devices(unittest.TestCase):
    def test_at_the_beginning(self):
        given = ask(begin(FULL, 3 + LOCK), [4, 0], [4, 1], [4, 2])
        self.assertEqual(given[1:], [[0, 2, 128, 2, 0, 0, 0], [0, 2, 128, 2, 0, 0, 0], [0, 0, 128, 0, 0, 0, 0]])

    def test_one_that_there_is_not(self):
        for number in (3, 4, 8, 4294967295):
            self.assertEqual(ask(begin(FULL), [4, number])[1], [-4])
        self.assertEqual(ask(begin(PAIR), [4, 1], [4, 0])[1:], [[-4], [0, 0, 128, 0, 0, 0, 0]])

    def test_after_ticks(self):
        given = ask(begin(FULL, 3), ticks([(3, 1), (3 + SAUCER, 4), (3, 1)]), [4, 0], [4, 1], [4, 2])
        self.assertEqual(given[2:], [[0, 2, 128, 2, 2, 1, 1998], [0, 0, 128, 0, 0, 0, 0], [0, 0, 0, 0, 1, 0, 0]])


class Search(unittest.TestCase):
    def test_ticks_are_counted_over_calls(self):
        given = ask(begin(PAIR, 3), [5], ticks(still(3, 7)), [5], ticks([]), [5], ticks(still(1, 5)), [5])
        self.assertEqual(given[1::2], [[0, 0, 0, 0], [0, 0, 0, 7], [0, 0, 0, 7], [0, 0, 0, 12]])


class Interface(unittest.TestCase):
    CALLS = (
        [3] + begin("table") + begin(PAIR, 1) + [5] + ticks([(1, 1), (3, 0)] + still(3, 130)) + [3, 4, 0, 4, 9]
        + ticks([(8, 0)]) + begin(FULL, 7) + [4, 2] + ticks([]) + [5]
    )
    GIVEN = [
        1, -10,
        3, -6, 1, 5,
        1, 0,
        4, 0, 0, 0, 0,
        8, 0, 1, 129, 144, 1, 0, 3, 40,
        4, 0, 0, 2, 0,
        7, 0, 2, 128, 2, 1, 1, 1869,
        1, -4,
        1, -1,
        1, 0,
        7, 0, 0, 128, 0, 0, 0, 0,
        3, 0, 0, 0,
        4, 0, 0, 0, 0,
    ]

    def test_several_calls_of_all_sorts(self):
        self.assertEqual(answers(list(self.CALLS)), self.GIVEN)

    def test_whole_numbers_in_a_list(self):
        given = answers(list(self.CALLS))
        self.assertIs(type(given), list)
        self.assertEqual({type(number) for number in given}, {int})

    def test_the_list_is_as_it_was(self):
        calls = list(self.CALLS)
        answers(calls)
        self.assertEqual(calls, self.CALLS)

    def test_the_list_is_not_changed_for_a_while_either(self):
        answers(Untouchable(self.CALLS))

    def test_two_times_the_same(self):
        self.assertEqual(answers(list(self.CALLS)), answers(list(self.CALLS)))

    def test_nothing_is_kept(self):
        answers(begin(PAIR, 3))
        self.assertEqual(answers([3, 5]), [1, -10, 1, -10])

    def test_what_is_given_back_is_a_list_of_its_own(self):
        first = answers([3])
        first.append(7)
        self.assertEqual(answers([3]), [1, -10])

    def test_two_begins_share_nothing(self):
        row = begin(PAIR, 3)
        self.assertEqual(answers(row + row + [3] + row + [3]), [1, 0, 1, 0, 4, 0, 0, 2, 0, 1, 0, 4, 0, 0, 2, 0])

    def test_most_calls(self):
        self.assertEqual(answers(begin(PAIR, 3) + [5] * 299), [1, 0] + [4, 0, 0, 0, 0] * 299)

    def test_most_numbers(self):
        given = ask(begin(PAIR, 3), ticks([(3, 1)] * 4096), ticks([(3, 1)] * 3700), [5])
        self.assertEqual(given[3], [0, 0, 0, 7796])


class Untouchable(list):
    """A list that lets nobody change it."""

    def changed(self, *given):
        raise AssertionError("the list was changed")

    append = extend = insert = pop = remove = clear = sort = reverse = changed
    __setitem__ = __delitem__ = __iadd__ = __imul__ = changed


if __name__ == "__main__":
    unittest.main()
