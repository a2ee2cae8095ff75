"""Devices: how many balls they hold, and how they let them go."""

REST_TICKS = 128
MOST_DUE = 255
MOST_TRIES = 3
TRY_TICKS = 2000
CAME = 144
WENT = 152
STUCK = 160


class Log:
    """What is told in some ticks, number by number."""

    def __init__(self):
        self.tick = 0
        self.events = []
        self.pulses = []

    def tell_event(self, event):
        """Tell an event of the tick."""
        self.events.extend([self.tick, event])

    def tell_pulse(self, plan):
        """Tell the pulse of a device's coil."""
        self.pulses.extend([self.tick, plan.coil, plan.pulse])


class Device:
    """A device at its beginning with this mask."""

    def __init__(self, number, plan, mask):
        self.number = number
        self.plan = plan
        self.shown = balls_shown(plan, mask)
        self.steady = REST_TICKS
        self.count = self.shown
        self.due = 0
        self.tried = 0
        self.left = 0


def balls_shown(plan, mask):
    """How many of the device's switches are closed."""
    return sum([mask >> spot & 1 for spot in plan.spots])


def at_rest(device):
    """Whether what the device shows may be believed."""
    return device.steady == REST_TICKS


def tick_device(device, mask, asked, log):
    """One tick of the device; asked is whether it is to let one more ball go."""
    look(device, mask)
    if at_rest(device):
        recount(device, log)
    if asked:
        device.due = min(MOST_DUE, device.due + 1)
    was_over = pass_try(device, log)
    if not was_over and can_try(device):
        begin_try(device, log)


def look(device, mask):
    """See what the device shows, and for how long."""
    shown = balls_shown(device.plan, mask)
    if shown != device.shown:
        device.shown = shown
        device.steady = 0
    else:
        device.steady = min(REST_TICKS, device.steady + 1)


def recount(device, log):
    """Take what the device shows as its count, and tell each ball that came or went."""
    change = device.shown - device.count
    device.count = device.shown
    for step in range(change):
        log.tell_event(CAME + device.number)
    for step in range(-change):
        log.tell_event(WENT + device.number)
    if change < 0 and device.tried > 0:
        settle(device)


def settle(device):
    """Be done with the ball that was tried."""
    device.left = 0
    device.tried = 0
    device.due -= 1


def pass_try(device, log):
    """One tick less of a try that is under way; answer whether it is over now."""
    if device.left == 0:
        return False
    device.left -= 1
    if device.left > 0:
        return False
    if device.tried == MOST_TRIES:
        log.tell_event(STUCK + device.number)
        settle(device)
    return True


def can_try(device):
    """Whether a ball can be let go now, and has to be."""
    return device.left == 0 and at_rest(device) and device.count > 0 and device.due > 0


def begin_try(device, log):
    """Try to let a ball go."""
    log.tell_pulse(device.plan)
    device.tried += 1
    device.left = TRY_TICKS
