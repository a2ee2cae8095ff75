"""What the tests share: tables, calls written out, and answers taken apart."""

from pinballs.balls import answers
from pinballs.game import Game

MARK = "^"

# Every sort of line in all its forms. Devices: 0 trough (places 0, 1, 2; coil at 0,
# pulse 40), 1 lock (places 5, 6; coil at 4, pulse 25), 2 saucer (place 9; coil at 31).
FULL = (
    "table full balls 3\n"
    "switch t0 at 0 close 1 open 31\n"
    "switch t1 at 1 close 31 open 1 turned\n"
    "switch t2 at 2 close 5 open 5\n"
    "switch l0 at 5 close 5 open 5\n"
    "switch l1 at 6 close 5 open 5\n"
    "switch s0 at 9 close 5 open 5\n"
    "switch sling at 20 close 2 open 4\n"
    "switch flip at 40 close 2 open 4\n"
    "switch eos at 63 close 2 open 4 turned\n"
    "lamp t0 at 0\n"
    "lamp shoot at 63\n"
    "coil trough at 0 most 60 rest 4095\n"
    "coil lock at 4 most 25 rest 1\n"
    "coil sling at 7 most 255 rest 100\n"
    "coil flip at 8 most 30 rest 100 hold 15\n"
    "coil saucer at 31 most 1023 rest 7 hold 1\n"
    "device trough by trough holds t0 t1 t2 drain\n"
    "device lock by lock holds l0 l1\n"
    "device saucer by saucer holds s0\n"
    "kick sling sling for 255\n"
    "kick flip flip for 30 till eos\n"
)
TROUGH = 7
LOCK = 96
SAUCER = 512
SLING = 1 << 20

# One device with two switches, for two balls.
PAIR = (
    "table pair balls 2\n"
    "switch a at 0 close 1 open 1\n"
    "switch b at 1 close 1 open 1\n"
    "switch c at 2 close 1 open 1\n"
    "coil k at 3 most 40 rest 1\n"
    "device d by k holds a b drain\n"
)


def bytes_of(text):
    return list(text.encode("latin-1"))


def begin(text, mask=0):
    row = bytes_of(text)
    return [1, mask, len(row)] + row


def ticks(pairs):
    flat = [number for pair in pairs for number in pair]
    return [2, len(flat)] + flat


def still(mask, times):
    """So many ticks with one mask and no asks."""
    return [(mask, 0)] * times


def ask(*calls):
    """Hand in the calls, and answer the list of their answers."""
    given = answers([number for call in calls for number in call])
    taken = []
    place = 0
    while place < len(given):
        finish = place + 1 + given[place]
        taken.append(given[place + 1:finish])
        place = finish
    return taken


def events_of(answer):
    """The (tick, event) of an answer of ticks."""
    count = answer[1]
    row = answer[2:2 + 2 * count]
    return [tuple(row[k:k + 2]) for k in range(0, len(row), 2)]


def pulses_of(answer):
    """The (tick, coil's place, length) of an answer of ticks."""
    row = answer[3 + 2 * answer[1]:]
    return [tuple(row[k:k + 3]) for k in range(0, len(row), 3)]


class Run:
    """A begun table on which any number of ticks is run, in pieces.

    One list of calls holds fewer ticks than the search waits for, so longer runs speak
    to the object itself.
    """

    def __init__(self, text, mask):
        self.game = Game()
        self.at = 0
        self.events = []
        self.pulses = []
        answer = self.game.begin(mask, bytes_of(text))
        if answer != [0]:
            raise ValueError(f"not begun: {answer}")

    def run(self, pairs, piece=4096):
        """Run the ticks, and keep what they tell with ticks numbered from the beginning."""
        for start in range(0, len(pairs), piece):
            part = pairs[start:start + piece]
            answer = self.game.run_ticks([number for pair in part for number in pair])
            if answer[0] != 0:
                raise ValueError(f"refused: {answer}")
            self.events += [(self.at + tick, event) for tick, event in events_of(answer)]
            self.pulses += [(self.at + tick, coil, length) for tick, coil, length in pulses_of(answer)]
            self.at += len(part)

    def state(self):
        """All that can be asked for."""
        devices = []
        while self.game.tell_device(len(devices)) != [-4]:
            devices.append(self.game.tell_device(len(devices)))
        return [self.game.tell_large(), self.game.tell_search(), devices]
