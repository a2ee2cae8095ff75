"""ticks: what devices count, let go, try again and tell stuck."""

import unittest

from tests.helper import FULL, LOCK, PAIR, SAUCER, SLING, TROUGH, Run, ask, begin, events_of, pulses_of, still, ticks

NOTHING_TOLD = [0, 0, 0]


class Refusals(unittest.TestCase):
    def refused(self, number, pairs, text=PAIR):
        given = ask(begin(text, 3), ticks([(1, 1)]), [3], [4, 0], [5], ticks(pairs), [3], [4, 0], [5])
        self.assertEqual(given[5], [number])
        self.assertEqual(given[2:5], given[6:9])

    def test_most_ticks(self):
        self.assertEqual(ask(begin(PAIR), ticks(still(0, 4096)), [5]), [[0], NOTHING_TOLD, [0, 4096, 0, 4096]])
        self.refused(-2, still(3, 4097))
        self.refused(-2, still(3, 7950))

    def test_too_many_is_told_before_wrong_masks(self):
        self.refused(-2, [(8, 2)] * 4097)

    def test_a_place_without_a_switch(self):
        self.refused(-1, [(8, 0)])
        self.refused(-1, [(1 << 63, 0)])
        self.refused(-1, [(3, 1), (0, 0), (8, 0)])
        self.refused(-1, [(3, 1)] * 4095 + [(9, 0)])
        self.refused(-1, [(3, 0), (8, 0)], FULL)

    def test_a_device_that_there_is_not(self):
        self.refused(-1, [(3, 2)])
        self.refused(-1, [(3, 3)])
        self.refused(-1, [(3, 1), (0, 0), (3, 1 << 63)])
        self.refused(-1, [(3, 7), (3, 8)], FULL)

    def test_all_devices_can_be_asked(self):
        self.assertEqual(ask(begin(FULL), ticks([(0, 7)]))[1], NOTHING_TOLD)


class Counts(unittest.TestCase):
    def test_no_ticks(self):
        self.assertEqual(ask(begin(PAIR, 3), ticks([]), [5], [4, 0]),
                         [[0], NOTHING_TOLD, [0, 0, 0, 0], [0, 2, 128, 2, 0, 0, 0]])

    def test_nothing_moves(self):
        self.assertEqual(ask(begin(PAIR, 3), ticks(still(3, 300)), [4, 0])[1:],
                         [NOTHING_TOLD, [0, 2, 128, 2, 0, 0, 0]])

    def test_at_rest_just_at_128_ticks(self):
        given = ask(begin(PAIR, 0), ticks(still(1, 1)), [4, 0], ticks(still(1, 127)), [4, 0], [3],
                    ticks(still(1, 1)), [4, 0], [3])
        self.assertEqual(given[1:], [
            NOTHING_TOLD, [0, 1, 0, 0, 0, 0, 0],
            NOTHING_TOLD, [0, 1, 127, 0, 0, 0, 0], [0, 2, 0, 0],
            [0, 1, 0, 144, 0], [0, 1, 128, 1, 0, 0, 0], [0, 1, 1, 0],
        ])

    def test_another_number_begins_anew(self):
        pairs = still(1, 128) + still(0, 1) + still(1, 129)
        self.assertEqual(events_of(ask(begin(PAIR, 0), ticks(pairs))[1]), [(257, 144)])

    def test_the_same_number_by_other_switches_is_no_change(self):
        pairs = still(2, 100) + still(1, 100)
        given = ask(begin(PAIR, 1), ticks(pairs), [4, 0])
        self.assertEqual(given[1:], [NOTHING_TOLD, [0, 1, 128, 1, 0, 0, 0]])

    def test_back_before_rest_is_no_event(self):
        given = ask(begin(PAIR, 3), ticks(still(1, 128) + still(3, 129)), [4, 0])
        self.assertEqual(given[1:], [NOTHING_TOLD, [0, 2, 128, 2, 0, 0, 0]])

    def test_switches_of_no_device_count_for_nothing(self):
        given = ask(begin(PAIR, 3), ticks(still(7, 200)), [3], [4, 0])
        self.assertEqual(given[1:], [NOTHING_TOLD, [0, 0, 2, 0], [0, 2, 128, 2, 0, 0, 0]])

    def test_several_more_and_less_at_once(self):
        given = ask(begin(FULL, 0), ticks(still(TROUGH, 129) + still(0, 129)), [4, 0])
        self.assertEqual(events_of(given[1]), [(128, 144)] * 3 + [(257, 152)] * 3)
        self.assertEqual(given[2], [0, 0, 128, 0, 0, 0, 0])

    def test_several_devices_in_their_order(self):
        pairs = still(SAUCER + LOCK, 129) + still(TROUGH, 129)
        given = ask(begin(FULL, TROUGH), ticks(pairs), [3])
        self.assertEqual(events_of(given[1]), [(128, 152)] * 3 + [(128, 145)] * 2 + [(128, 146)]
                         + [(257, 144)] * 3 + [(257, 153)] * 2 + [(257, 154)])

    def test_places_and_not_orders_of_switches(self):
        given = ask(begin(FULL, LOCK), [4, 0], [4, 1], [4, 2], ticks(still(64, 1)), [4, 1])
        self.assertEqual(given[1:4], [[0, 0, 128, 0, 0, 0, 0], [0, 2, 128, 2, 0, 0, 0], [0, 0, 128, 0, 0, 0, 0]])
        self.assertEqual(given[5], [0, 1, 0, 2, 0, 0, 0])


class Tries(unittest.TestCase):
    def test_a_try_at_once(self):
        given = ask(begin(PAIR, 3), ticks([(3, 0), (3, 1)]), [4, 0])
        self.assertEqual(given[1], [0, 0, 1, 1, 3, 40])
        self.assertEqual(given[2], [0, 2, 128, 2, 1, 1, 2000])

    def test_pulses_of_coils(self):
        given = ask(begin(FULL, TROUGH + LOCK + SAUCER), ticks([(TROUGH + LOCK + SAUCER, 7)]))
        self.assertEqual(pulses_of(given[1]), [(0, 0, 40), (0, 4, 25), (0, 31, 40)])
        for most, length in ((1, 1), (39, 39), (40, 40), (41, 40), (1023, 40)):
            given = ask(begin(PAIR.replace("most 40", f"most {most}"), 3), ticks([(3, 1)]))
            self.assertEqual(pulses_of(given[1]), [(0, 3, length)])

    def test_one_device_of_several(self):
        mask = TROUGH + LOCK + SAUCER
        given = ask(begin(FULL, mask), ticks([(mask, 4), (mask, 2)]), [4, 0], [4, 1], [4, 2])
        self.assertEqual(pulses_of(given[1]), [(0, 31, 40), (1, 4, 25)])
        self.assertEqual(given[2:], [[0, 3, 128, 3, 0, 0, 0], [0, 2, 128, 2, 1, 1, 2000], [0, 1, 128, 1, 1, 1, 1999]])

    def test_none_without_a_ball(self):
        given = ask(begin(PAIR, 0), ticks([(0, 1)] + still(0, 50)), [4, 0], ticks(still(1, 129)), [4, 0])
        self.assertEqual(given[1], NOTHING_TOLD)
        self.assertEqual(given[2], [0, 0, 128, 0, 1, 0, 0])
        # The ball that comes is counted and tried in the same tick.
        self.assertEqual(given[3], [0, 1, 128, 144, 1, 128, 3, 40])
        self.assertEqual(given[4], [0, 1, 128, 1, 1, 1, 2000])

    def test_none_that_is_not_at_rest(self):
        given = ask(begin(PAIR, 1), ticks([(3, 1)] + still(3, 127)), [4, 0], ticks(still(3, 1)), [4, 0])
        self.assertEqual(given[1:], [NOTHING_TOLD, [0, 2, 127, 1, 1, 0, 0],
                                     [0, 1, 0, 144, 1, 0, 3, 40], [0, 2, 128, 2, 1, 1, 2000]])

    def test_a_ball_goes_within_a_try(self):
        given = ask(begin(PAIR, 3), ticks([(3, 1)] + still(1, 128)), [4, 0], ticks(still(1, 1)), [4, 0])
        self.assertEqual(given[1], [0, 0, 1, 0, 3, 40])
        self.assertEqual(given[2], [0, 1, 127, 2, 1, 1, 1872])
        self.assertEqual(given[3], [0, 1, 0, 152, 0])
        self.assertEqual(given[4], [0, 1, 128, 1, 0, 0, 0])

    def test_a_ball_goes_without_a_try(self):
        given = ask(begin(PAIR, 3), ticks(still(1, 129)), [4, 0])
        self.assertEqual(given[1:], [[0, 1, 128, 152, 0], [0, 1, 128, 1, 0, 0, 0]])

    def test_a_ball_that_goes_untried_leaves_what_is_to_be_let_go(self):
        given = ask(begin(PAIR, 3), ticks([(1, 0), (1, 1)] + still(1, 127)), [4, 0])
        self.assertEqual(given[1], [0, 1, 128, 152, 1, 128, 3, 40])
        self.assertEqual(given[2], [0, 1, 128, 1, 1, 1, 2000])

    def test_two_balls_that_go_within_one_try_let_one_go(self):
        given = ask(begin(PAIR, 3), ticks([(3, 1), (3, 1), (3, 1)] + still(0, 129)), [4, 0])
        self.assertEqual(events_of(given[1]), [(131, 152), (131, 152)])
        self.assertEqual(given[2], [0, 0, 128, 0, 2, 0, 0])

    def test_a_ball_that_comes_leaves_the_try(self):
        given = ask(begin(PAIR, 1), ticks([(1, 1)] + still(3, 129)), [4, 0])
        self.assertEqual(given[1], [0, 1, 129, 144, 1, 0, 3, 40])
        self.assertEqual(given[2], [0, 2, 128, 2, 1, 1, 1871])

    def test_the_next_try_in_the_tick_in_which_a_ball_went(self):
        given = ask(begin(PAIR, 3), ticks([(3, 1), (3, 1)] + still(1, 129)), [4, 0])
        self.assertEqual(events_of(given[1]), [(130, 152)])
        self.assertEqual(pulses_of(given[1]), [(0, 3, 40), (130, 3, 40)])
        self.assertEqual(given[2], [0, 1, 128, 1, 1, 1, 2000])

    def test_asked_while_a_try_is_under_way(self):
        given = ask(begin(PAIR, 3), ticks([(3, 1), (3, 1), (3, 0), (3, 1)]), [4, 0])
        self.assertEqual(given[1], [0, 0, 1, 0, 3, 40])
        self.assertEqual(given[2], [0, 2, 128, 2, 3, 1, 1997])

    def test_255_to_be_let_go(self):
        given = ask(begin(PAIR, 0), ticks([(0, 1)] * 254), [4, 0], ticks([(0, 1)]), [4, 0], ticks([(0, 1)]), [4, 0])
        self.assertEqual([given[k][4] for k in (2, 4, 6)], [254, 255, 255])

    def test_255_and_one_asked_as_one_goes(self):
        # The ball is let go before the asking is heard, so the asking finds room.
        run = Run(PAIR, 3)
        run.run([(3, 1)] * 300 + still(1, 128))
        self.assertEqual(run.game.tell_device(0)[4], 255)
        run.run([(1, 1)])
        self.assertEqual(run.game.tell_device(0), [0, 1, 128, 1, 255, 1, 2000])


class Stuck(unittest.TestCase):
    def test_a_try_is_over_at_2000_ticks(self):
        given = ask(begin(PAIR, 3), ticks([(3, 1)] + still(3, 1999)), [4, 0], ticks(still(3, 1)), [4, 0],
                    ticks(still(3, 1)), [4, 0])
        self.assertEqual(given[2], [0, 2, 128, 2, 1, 1, 1])
        # No try in the tick in which one was over.
        self.assertEqual(given[3:5], [NOTHING_TOLD, [0, 2, 128, 2, 1, 1, 0]])
        self.assertEqual(given[5:7], [[0, 0, 1, 0, 3, 40], [0, 2, 128, 2, 1, 2, 2000]])

    def test_the_second_and_the_third_and_stuck(self):
        run = Run(PAIR, 3)
        run.run([(3, 1)] + still(3, 6002))
        self.assertEqual(run.pulses, [(0, 3, 40), (2001, 3, 40), (4002, 3, 40)])
        self.assertEqual(run.events, [(6002, 160)])
        self.assertEqual(run.game.tell_device(0), [0, 2, 128, 2, 0, 0, 0])
        run.run(still(3, 3000))
        self.assertEqual((len(run.pulses), len(run.events)), (3, 1))

    def test_the_next_one_a_tick_behind_stuck(self):
        run = Run(PAIR, 3)
        run.run([(3, 1), (3, 1)] + still(3, 6002))
        self.assertEqual(run.events, [(6002, 160)])
        self.assertEqual(run.pulses[3:], [(6003, 3, 40)])
        self.assertEqual(run.game.tell_device(0), [0, 2, 128, 2, 1, 1, 2000])

    def test_asked_in_the_tick_in_which_a_try_is_over(self):
        run = Run(PAIR, 3)
        run.run([(3, 1)] + still(3, 6001) + [(3, 1)])
        self.assertEqual(run.events, [(6002, 160)])
        self.assertEqual(run.game.tell_device(0), [0, 2, 128, 2, 1, 0, 0])
        run.run(still(3, 1))
        self.assertEqual(run.game.tell_device(0), [0, 2, 128, 2, 1, 1, 2000])

    def test_a_ball_that_goes_after_its_try_was_over(self):
        # It rolls just before the try is over, so it isn't at rest for the next one.
        run = Run(PAIR, 3)
        run.run([(3, 1)] + still(3, 1899) + still(1, 101))
        self.assertEqual(run.game.tell_device(0), [0, 1, 100, 2, 1, 1, 0])
        run.run(still(1, 28))
        self.assertEqual(run.events, [(2028, 152)])
        self.assertEqual(run.game.tell_device(0), [0, 1, 128, 1, 0, 0, 0])
        self.assertEqual(run.pulses, [(0, 3, 40)])

    def test_a_ball_that_goes_in_the_tick_in_which_the_third_try_would_be_over(self):
        run = Run(PAIR, 3)
        run.run([(3, 1)] + still(3, 5873) + still(1, 129))
        self.assertEqual(run.events, [(6002, 152)])
        self.assertEqual(run.game.tell_device(0), [0, 1, 128, 1, 0, 0, 0])

    def test_a_ball_that_goes_at_the_second_try(self):
        run = Run(PAIR, 3)
        run.run([(3, 1), (3, 1)] + still(3, 2100) + still(1, 129))
        self.assertEqual(run.events, [(2230, 152)])
        self.assertEqual(run.pulses, [(0, 3, 40), (2001, 3, 40), (2230, 3, 40)])
        self.assertEqual(run.game.tell_device(0), [0, 1, 128, 1, 1, 1, 2000])

    def test_an_empty_device_waits(self):
        # Two go at once within a try that had another behind it: that one waits.
        run = Run(PAIR, 3)
        run.run([(3, 1), (3, 1)] + still(0, 129) + still(0, 3000))
        self.assertEqual(run.game.tell_device(0), [0, 0, 128, 0, 1, 0, 0])
        self.assertEqual(run.pulses, [(0, 3, 40)])

    def test_a_shaking_device_is_not_tried_again(self):
        # A try that is under way goes on while the device isn't at rest; the next one waits for rest.
        run = Run(PAIR, 3)
        shaking = [(1 if tick // 50 % 2 else 3, 0) for tick in range(4000)]
        run.run([(3, 1)] + shaking)
        self.assertEqual(run.game.tell_device(0)[5:], [1, 0])
        self.assertEqual((run.events, run.pulses), ([], [(0, 3, 40)]))

    def test_events_of_other_devices(self):
        mask = TROUGH + LOCK + SAUCER
        run = Run(FULL, mask)
        run.run([(mask, 6)] + still(mask, 6002))
        self.assertEqual(run.events, [(6002, 161), (6002, 162)])
        self.assertEqual(run.pulses, [(tick, coil, length) for tick in (0, 2001, 4002)
                                      for coil, length in ((4, 25), (31, 40))])

    def test_all_sorts_of_events_in_one_tick(self):
        # Of one tick: the trough lost a ball in its try, the lock is stuck, the saucer got one.
        run = Run(FULL, 3 + LOCK)
        run.run([(3 + LOCK, 2)] + still(3 + LOCK, 5872) + [(3 + LOCK, 1)] + still(1 + LOCK + SAUCER + SLING, 129))
        self.assertEqual(run.events, [(6002, 152), (6002, 161), (6002, 146)])


if __name__ == "__main__":
    unittest.main()
