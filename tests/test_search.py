"""The search for balls that stay away, and what is missing."""

import unittest

from tests.helper import FULL, PAIR, SAUCER, SLING, Run, ask, begin, still, ticks

# With one device a round is over at 15,300 quiet ticks.
ROUND = 15300
# Of FULL, three balls: one in the trough, two at large; a round has three pulses.
FULL_ROUND = 15900


class Quiet(unittest.TestCase):
    def test_at_the_beginning(self):
        self.assertEqual(ask(begin(PAIR, 1), [5])[1], [0, 0, 0, 0])

    def test_each_tick(self):
        self.assertEqual(ask(begin(PAIR, 1), ticks(still(1, 1)), [5], ticks(still(1, 99)), [5])[2::2],
                         [[0, 1, 0, 1], [0, 100, 0, 100]])

    def test_another_mask(self):
        given = ask(begin(PAIR, 1), ticks(still(1, 10) + still(5, 1)), [5], ticks(still(5, 7)), [5])
        self.assertEqual(given[2::2], [[0, 0, 0, 11], [0, 7, 0, 18]])

    def test_another_mask_than_at_the_beginning(self):
        self.assertEqual(ask(begin(PAIR, 1), ticks(still(2, 1)), [5])[2], [0, 0, 0, 1])

    def test_none_at_large(self):
        self.assertEqual(ask(begin(PAIR, 3), ticks(still(3, 10)), [5])[2], [0, 0, 0, 10])

    def test_more_balls_shown_than_there_are(self):
        text = PAIR.replace("balls 2", "balls 1")
        self.assertEqual(ask(begin(text, 3), ticks(still(3, 10)), [5], [3])[2:], [[0, 0, 0, 10], [0, 0, 2, 0]])

    def test_the_last_ball_comes_to_rest(self):
        given = ask(begin(PAIR, 1), ticks(still(3, 128)), [5], ticks(still(3, 1)), [5])
        self.assertEqual(given[2::2], [[0, 127, 0, 128], [0, 0, 0, 129]])

    def test_a_ball_that_goes(self):
        given = ask(begin(PAIR, 3), ticks(still(1, 128)), [5], ticks(still(1, 1)), [5])
        self.assertEqual(given[2::2], [[0, 0, 0, 128], [0, 1, 0, 129]])

    def test_a_try_under_way(self):
        given = ask(begin(PAIR, 1), ticks(still(1, 10) + [(1, 1)]), [5], ticks(still(1, 1000)), [5])
        self.assertEqual(given[2::2], [[0, 0, 0, 11], [0, 0, 0, 1011]])

    def test_quiet_in_the_tick_in_which_one_is_stuck(self):
        run = Run(PAIR, 1)
        run.run([(1, 1)] + still(1, 6001))
        self.assertEqual(run.game.tell_search(), [0, 0, 0, 6002])
        run.run(still(1, 1))
        self.assertEqual(run.game.tell_search(), [0, 1, 0, 6003])

    def test_something_to_be_let_go(self):
        given = ask(begin(PAIR, 0), ticks(still(0, 10) + [(0, 1)] + still(0, 50)), [5])
        self.assertEqual(given[2], [0, 0, 0, 61])

    def test_any_device_that_has_something_to_let_go(self):
        given = ask(begin(FULL, 1), ticks(still(1, 10) + [(1, 4)] + still(1, 50)), [5])
        self.assertEqual(given[2], [0, 0, 0, 61])


class Rounds(unittest.TestCase):
    def test_first_pulse_at_15000(self):
        run = Run(PAIR, 1)
        run.run(still(1, 14999))
        self.assertEqual((run.pulses, run.game.tell_search()), ([], [0, 14999, 0, 14999]))
        run.run(still(1, 1))
        self.assertEqual((run.pulses, run.game.tell_search()), ([(14999, 3, 40)], [0, 15000, 0, 15000]))

    def test_round_behind_the_only_device(self):
        run = Run(PAIR, 1)
        run.run(still(1, ROUND - 1))
        self.assertEqual(run.game.tell_search(), [0, 15299, 0, 15299])
        run.run(still(1, 1))
        self.assertEqual(run.game.tell_search(), [0, 0, 1, 15300])
        run.run(still(1, 1))
        self.assertEqual(run.game.tell_search(), [0, 1, 1, 15301])
        self.assertEqual(run.pulses, [(14999, 3, 40)])

    def test_each_300_ticks_the_next_device(self):
        run = Run(FULL, 1)
        run.run(still(1, FULL_ROUND - 1))
        self.assertEqual(run.pulses, [(14999, 0, 40), (15299, 4, 25), (15599, 31, 40)])
        self.assertEqual(run.game.tell_search(), [0, 15899, 0, 15899])
        run.run(still(1, 1))
        self.assertEqual(run.game.tell_search(), [0, 0, 1, 15900])
        run.run(still(1, 15000))
        self.assertEqual(run.pulses[3:], [(30899, 0, 40)])
        self.assertEqual(run.events, [])

    def test_pulses_are_no_tries(self):
        run = Run(PAIR, 1)
        run.run(still(1, 15000))
        self.assertEqual(run.game.tell_device(0), [0, 1, 128, 1, 0, 0, 0])

    def test_empty_devices_are_searched_too(self):
        run = Run(PAIR, 0)
        run.run(still(0, 15000))
        self.assertEqual(run.pulses, [(14999, 3, 40)])

    def test_missing_behind_three_rounds(self):
        run = Run(PAIR, 1)
        for rounds in (1, 2):
            run.run(still(1, ROUND))
            self.assertEqual(run.game.tell_search(), [0, 0, rounds, rounds * ROUND])
            self.assertEqual(run.game.tell_large(), [0, 1, 1, 0])
        run.run(still(1, ROUND - 1))
        self.assertEqual(run.game.tell_large(), [0, 1, 1, 0])
        run.run(still(1, 1))
        self.assertEqual(run.game.tell_search(), [0, 0, 3, 3 * ROUND])
        self.assertEqual(run.game.tell_large(), [0, 1, 1, 1])

    def test_three_rounds_stay(self):
        run = Run(PAIR, 0)
        run.run(still(0, 4 * ROUND + 5))
        self.assertEqual(run.game.tell_search(), [0, 5, 3, 4 * ROUND + 5])
        self.assertEqual(run.game.tell_large(), [0, 2, 0, 2])
        self.assertEqual(run.pulses, [(k * ROUND + 14999, 3, 40) for k in range(4)])

    def test_missing_of_several_devices(self):
        run = Run(FULL, 1)
        run.run(still(1, 3 * FULL_ROUND))
        self.assertEqual(run.game.tell_large(), [0, 2, 1, 2])


class SomethingMoves(unittest.TestCase):
    def missing_run(self):
        run = Run(PAIR, 1)
        run.run(still(1, 3 * ROUND + 10))
        self.assertEqual(run.game.tell_large(), [0, 1, 1, 1])
        return run

    def test_another_mask(self):
        run = self.missing_run()
        run.run(still(5, 1))
        self.assertEqual(run.game.tell_large(), [0, 1, 1, 0])
        self.assertEqual(run.game.tell_search(), [0, 0, 0, 3 * ROUND + 11])

    def test_a_try(self):
        run = self.missing_run()
        run.run([(1, 1)])
        self.assertEqual(run.game.tell_large(), [0, 1, 1, 0])
        self.assertEqual(run.game.tell_search(), [0, 0, 0, 3 * ROUND + 11])

    def test_between_two_pulses(self):
        run = Run(FULL, 1)
        run.run(still(1, 15300) + still(1 + SLING, 1))
        self.assertEqual(run.game.tell_search(), [0, 0, 0, 15301])
        # From then on it's the first device first once more.
        run.run(still(1 + SLING, 15000))
        self.assertEqual(run.pulses, [(14999, 0, 40), (15299, 4, 25), (30300, 0, 40)])

    def test_in_the_tick_of_a_pulse(self):
        run = Run(PAIR, 1)
        run.run(still(1, 14999) + still(5, 1))
        self.assertEqual((run.pulses, run.game.tell_search()), ([], [0, 0, 0, 15000]))

    def test_in_the_tick_of_a_round(self):
        run = Run(PAIR, 1)
        run.run(still(1, ROUND) + still(1, ROUND - 1) + [(1, 1)])
        self.assertEqual(run.game.tell_search(), [0, 0, 0, 2 * ROUND])

    def test_rounds_are_lost(self):
        run = Run(PAIR, 1)
        run.run(still(1, 2 * ROUND) + still(5, 1) + still(5, ROUND))
        self.assertEqual(run.game.tell_search(), [0, 0, 1, 3 * ROUND + 1])
        self.assertEqual(run.game.tell_large(), [0, 1, 1, 0])

    def test_the_ball_is_found(self):
        run = Run(FULL, 3)
        run.run(still(3, 3 * FULL_ROUND))
        self.assertEqual(run.game.tell_large(), [0, 1, 2, 1])
        run.run(still(3 + SAUCER, 129))
        self.assertEqual(run.game.tell_large(), [0, 0, 3, 0])
        self.assertEqual(run.game.tell_search(), [0, 0, 0, 3 * FULL_ROUND + 129])

    def test_a_new_beginning(self):
        run = self.missing_run()
        run.game.begin(1, list(PAIR.encode()))
        self.assertEqual(run.game.tell_large(), [0, 1, 1, 0])
        self.assertEqual(run.game.tell_search(), [0, 0, 0, 0])


class WithoutDevices(unittest.TestCase):
    def test_there_is_no_such_table(self):
        text = "table t balls 1\nswitch a at 0 close 1 open 1\ncoil k at 0 most 1 rest 1\n"
        self.assertEqual(ask(begin(text), [5]), [[-6, 8, len(text)], [-10]])


class OrderInOneTick(unittest.TestCase):
    def test_pulses_of_one_call_stand_in_their_order(self):
        # The search's pulse, and a tick behind it a try's, in one call.
        run = Run(PAIR, 1)
        run.run(still(1, 14990))
        answer = run.game.run_ticks([1, 0] * 10 + [1, 1])
        self.assertEqual(answer, [0, 0, 2, 9, 3, 40, 10, 3, 40])


if __name__ == "__main__":
    unittest.main()
