"""A table that is begun: its devices, its balls at large, and the search for them."""

from pinballs.devices import Device
from pinballs.devices import tick_device

QUIET_TICKS = 15000
SEARCH_TICKS = 300
MOST_ROUNDS = 3


class Play:
    """A table at its beginning with this mask."""

    def __init__(self, table, mask):
        self.balls = table.balls
        self.devices = [Device(number, plan, mask) for number, plan in enumerate(table.plans)]
        self.known_places = bits_at(list(table.switches.places.values()))
        self.known_asks = bits_at(list(range(len(table.plans))))
        self.mask = mask
        self.quiet = 0
        self.rounds = 0
        self.ticks = 0


def bits_at(places):
    """The number whose bits stand at these places, which all differ."""
    return sum([1 << place for place in places])


def balls_held(play):
    """How many balls the devices count together."""
    return sum([device.count for device in play.devices])


def balls_at_large(play):
    """How many balls are in no device."""
    return max(0, play.balls - balls_held(play))


def balls_missing(play):
    """How many balls were looked for in vain."""
    return balls_at_large(play) if play.rounds == MOST_ROUNDS else 0


def tick_play(play, mask, asks, log):
    """One tick of the whole table."""
    for device in play.devices:
        tick_device(device, mask, asks >> device.number & 1 == 1, log)
    moved = mask != play.mask
    play.mask = mask
    play.ticks += 1
    if moved or is_stirring(play):
        play.quiet = 0
        play.rounds = 0
    else:
        search_on(play, log)


def is_stirring(play):
    """Whether there's no ball to look for, or one is still to roll out."""
    if balls_at_large(play) == 0:
        return True
    return any([device.left > 0 or device.due > 0 for device in play.devices])


def search_on(play, log):
    """One quiet tick more, and the pulse that is due in it."""
    play.quiet += 1
    late = play.quiet - QUIET_TICKS
    if late < 0 or late % SEARCH_TICKS != 0:
        return
    number = late // SEARCH_TICKS
    if number < len(play.devices):
        log.tell_pulse(play.devices[number].plan)
    else:
        play.quiet = 0
        play.rounds = min(MOST_ROUNDS, play.rounds + 1)
