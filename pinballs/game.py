"""The one object that the calls speak to."""

from pinballs.devices import Log
from pinballs.play import Play
from pinballs.play import balls_at_large
from pinballs.play import balls_held
from pinballs.play import balls_missing
from pinballs.play import tick_play
from pinballs.tables import read_table
from pinballs.words import Fault

LONGEST_TEXT = 16384
MOST_TICKS = 4096
DONE = 0
UNKNOWN_PLACE = -1
TOO_LONG = -2
NO_DEVICE = -4
FAULTY = -6
NOT_BEGUN = -10


class Game:
    """Nothing is begun at first. Each call answers a list of whole numbers."""

    def __init__(self):
        self.play = None

    def begin(self, mask, text):
        """Put a table at its beginning in the place of what was."""
        if len(text) > LONGEST_TEXT:
            return [TOO_LONG]
        try:
            table = read_table(text)
        except Fault as fault:
            return [FAULTY, fault.kind, fault.place]
        play = Play(table, mask)
        if not are_known(play, [mask, 0]):
            return [UNKNOWN_PLACE]
        self.play = play
        return [DONE]

    def run_ticks(self, pairs):
        """Go through ticks, each of them a mask and its asks."""
        if self.play is None:
            return [NOT_BEGUN]
        if len(pairs) > 2 * MOST_TICKS:
            return [TOO_LONG]
        if not are_known(self.play, pairs):
            return [UNKNOWN_PLACE]
        log = Log()
        for tick in range(len(pairs) // 2):
            log.tick = tick
            tick_play(self.play, pairs[2 * tick], pairs[2 * tick + 1], log)
        return told(log)

    def tell_large(self):
        """How many balls are at large, in devices, and missing."""
        if self.play is None:
            return [NOT_BEGUN]
        return [DONE, balls_at_large(self.play), balls_held(self.play), balls_missing(self.play)]

    def tell_device(self, number):
        """How the device with this number stands."""
        if self.play is None:
            return [NOT_BEGUN]
        if number >= len(self.play.devices):
            return [NO_DEVICE]
        device = self.play.devices[number]
        return [DONE, device.shown, device.steady, device.count, device.due, device.tried, device.left]

    def tell_search(self):
        """How far the search is, and how many ticks there were."""
        if self.play is None:
            return [NOT_BEGUN]
        return [DONE, self.play.quiet, self.play.rounds, self.play.ticks]


def are_known(play, pairs):
    """Whether each mask has only places of switches, and each ask is for a device that there is."""
    for index, number in enumerate(pairs):
        known = play.known_places if index % 2 == 0 else play.known_asks
        if number & ~known != 0:
            return False
    return True


def told(log):
    """The answer that tells the log's events and pulses, each with how many there are."""
    answer = [DONE, len(log.events) // 2]
    answer.extend(log.events)
    answer.append(len(log.pulses) // 3)
    answer.extend(log.pulses)
    return answer
