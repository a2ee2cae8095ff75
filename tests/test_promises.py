"""H1 to H7 over longer runs."""

import unittest

from tests.helper import FULL, Run, bytes_of

CAME, WENT, STUCK = 144, 152, 160
COILS = (0, 4, 31)
SPOTS = ((0, 1, 2), (5, 6), (9,))
BALLS = 3


class Dice:
    """Numbers that look thrown, the same in each run."""

    def __init__(self, seed):
        self.state = seed

    def below(self, most):
        self.state = (self.state * 6364136223846793005 + 1442695040888963407) % (1 << 64)
        return (self.state >> 33) % most


def wild_ticks(seed, count):
    """Masks that stay for a while and change, with some asks."""
    dice = Dice(seed)
    places = [0, 1, 2, 5, 6, 9, 20]
    pairs = []
    mask = 7
    while len(pairs) < count:
        for change in range(dice.below(3)):
            mask ^= 1 << places[dice.below(len(places))]
        pairs.append((mask, dice.below(8)))
        stay = (3, 130, 400, 1500, 4000)[dice.below(5)]
        pairs += [(mask, 0)] * dice.below(stay)
    return pairs[:count]


def shows(mask, device):
    return sum(mask >> place & 1 for place in SPOTS[device])


def watched(pairs):
    """Of the beginning and of each tick: its pair, its events, its pulses, and the state behind it."""
    run = Run(FULL, 7)
    rows = [((7, 0), [], [], run.state())]
    for pair in pairs:
        run.events = []
        run.pulses = []
        run.run([pair])
        rows.append((pair, [event for tick, event in run.events], run.pulses, run.state()))
    return rows


class EachTick(unittest.TestCase):
    """The table is run tick by tick, and looked at behind each."""

    @classmethod
    def setUpClass(cls):
        cls.runs = [watched(wild_ticks(seed, 12000)) for seed in (1, 2, 3, 4, 5)]

    def steps(self):
        """Each tick: the state before, the pair, the events, the pulses, the state behind."""
        for rows in self.runs:
            for before, behind in zip(rows, rows[1:]):
                yield before[3], behind[0], behind[1], behind[2], behind[3]

    def test_the_runs_are_worth_it(self):
        seen = {event for rows in self.runs for row in rows for event in row[1]}
        self.assertLessEqual({144, 145, 146, 152, 153, 154, 160, 161, 162}, seen)

    def test_h1_counts_are_what_was_shown_at_rest(self):
        for rows in self.runs:
            for device in range(3):
                last = shows(7, device)
                since = 128
                count = last
                for pair, events, pulses, state in rows[1:]:
                    shown = shows(pair[0], device)
                    since = since + 1 if shown == last else 0
                    last = shown
                    if since >= 128:
                        count = shown
                    self.assertEqual(state[2][device][1:4], [shown, min(since, 128), count])

    def test_h2_counts_and_events_agree(self):
        for before, pair, events, pulses, behind in self.steps():
            for device in range(3):
                change = events.count(CAME + device) - events.count(WENT + device)
                self.assertEqual(behind[2][device][3] - before[2][device][3], change)
                self.assertFalse(CAME + device in events and WENT + device in events)

    def test_h3_in_devices_and_at_large(self):
        for before, pair, events, pulses, behind in self.steps():
            held = sum(device[3] for device in behind[2])
            self.assertEqual(behind[0], [0, max(0, BALLS - held), held, 0])

    def test_h4_each_asking(self):
        for before, pair, events, pulses, behind in self.steps():
            for device in range(3):
                asked = pair[1] >> device & 1
                gone = 1 if WENT + device in events and before[2][device][5] > 0 else 0
                stuck = events.count(STUCK + device)
                self.assertLessEqual(gone + stuck, 1)
                self.assertEqual(behind[2][device][4], before[2][device][4] + asked - gone - stuck)

    def test_h5_tries(self):
        for before, pair, events, pulses, behind in self.steps():
            for device in range(3):
                tries = [pulse for pulse in pulses if pulse[1] == COILS[device]]
                shown, steady, count, due, tried, left = behind[2][device][1:]
                settled = WENT + device in events
                if tries:
                    self.assertEqual((len(tries), steady, left), (1, 128, 2000))
                    self.assertTrue(before[2][device][6] == 0 or settled)
                    self.assertTrue(count > 0 and due > 0)
                else:
                    self.assertEqual(left, 0 if settled else max(0, before[2][device][6] - 1))
                self.assertTrue(0 <= tried <= 3)


class Pieces(unittest.TestCase):
    def test_in_pieces_the_same(self):
        for seed in (5, 6, 7):
            pairs = wild_ticks(seed, 9000)
            whole = Run(FULL, 7)
            whole.run(pairs)
            for piece in (1, 7, 1000):
                other = Run(FULL, 7)
                other.run(pairs, piece)
                self.same(other, whole)

    def test_a_search_in_pieces(self):
        pairs = [(1, 0)] * (3 * 15900 + 100)
        whole = Run(FULL, 1)
        whole.run(pairs)
        self.assertEqual(len(whole.pulses), 9)
        for piece in (299, 4001):
            other = Run(FULL, 1)
            other.run(pairs, piece)
            self.same(other, whole)

    def same(self, other, whole):
        self.assertEqual((other.events, other.pulses), (whole.events, whole.pulses))
        self.assertEqual(other.state(), whole.state())


class Refused(unittest.TestCase):
    def test_nothing_is_changed(self):
        refused = (
            lambda game: game.run_ticks([7, 0, 8, 0]),
            lambda game: game.run_ticks([7, 7, 7, 8]),
            lambda game: game.run_ticks([0, 7] * 4097),
            lambda game: game.tell_device(3),
            lambda game: game.begin(0, bytes_of("table")),
            lambda game: game.begin(8, bytes_of(FULL)),
        )
        pairs = wild_ticks(8, 9000)
        plain = Run(FULL, 7)
        other = Run(FULL, 7)
        for number in range(90):
            part = pairs[100 * number:100 * number + 100]
            plain.run(part)
            other.run(part)
            before = other.state()
            self.assertLess(refused[number % len(refused)](other.game)[0], 0)
            self.assertEqual(other.state(), before)
        self.assertEqual((other.events, other.pulses, other.state()), (plain.events, plain.pulses, plain.state()))


if __name__ == "__main__":
    unittest.main()
