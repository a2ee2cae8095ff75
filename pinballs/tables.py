"""Tables, read from their texts."""

from pinballs.words import Fault
from pinballs.words import end_line
from pinballs.words import next_line
from pinballs.words import take_fixed
from pinballs.words import take_name
from pinballs.words import take_number

MOST_BALLS = 8
MOST_DEVICES = 8
MOST_HELD = 8
MOST_KICKS = 8
LONGEST_PULSE = 40

SORTS = ("table", "switch", "lamp", "coil", "device", "kick")
NOTHING_READ = -1
HEAD = 0
DEVICE = 4
KICK = 5


class Roll:
    """The names of one sort with their places, which rise from line to line."""

    def __init__(self, most, barred):
        self.places = {}
        self.highest = -1
        self.most = most
        self.barred = barred


class Plan:
    """A device as the text tells it: its coil's place and pulse, its switches' places."""

    def __init__(self, coil, pulse, spots):
        self.coil = coil
        self.pulse = pulse
        self.spots = spots


class Table:
    """What the lines read so far have told."""

    def __init__(self):
        self.rank = NOTHING_READ
        self.balls = 0
        self.switches = Roll(63, "drain")
        self.lamps = Roll(63, "loop")
        self.coils = Roll(31, "")
        self.mosts = {}
        self.device_names = {}
        self.plans = []
        self.held = {}
        self.busy_coils = {}
        self.drained = 0
        self.kicks = 0
        self.highest_kick = -1


def take_new_name(line, known, barred):
    """Take a name that its sort doesn't have yet."""
    word = take_name(line)
    if word.letters == barred:
        raise Fault(4, word.place)
    if word.letters in known:
        raise Fault(5, word.place)
    return word.letters


def take_known(line, roll):
    """Take a name that stands before in its sort."""
    word = take_name(line)
    if word.letters not in roll.places:
        raise Fault(6, word.place)
    return word.letters


def take_entry(line, roll):
    """Take a new name and its place, enter them, and answer the name."""
    name = take_new_name(line, roll.places, roll.barred)
    take_fixed(line, "at")
    place = take_number(line, 0, roll.most)
    if place <= roll.highest:
        raise Fault(5, line.last_place())
    roll.places[name] = place
    roll.highest = place
    return name


def take_free_coil(table, line):
    """Take a coil that serves nothing yet."""
    coil = take_known(line, table.coils)
    if coil in table.busy_coils:
        raise Fault(7, line.last_place())
    table.busy_coils[coil] = True
    return coil


def take_free_spot(table, line):
    """Take a switch that no device has yet, and answer its place."""
    switch = take_known(line, table.switches)
    if switch in table.held:
        raise Fault(7, line.last_place())
    table.held[switch] = True
    return table.switches.places[switch]


def take_kick_switch(table, line):
    """Take a kick's first switch."""
    switch = take_known(line, table.switches)
    place = table.switches.places[switch]
    if place <= table.highest_kick:
        raise Fault(5, line.last_place())
    if switch in table.held:
        raise Fault(7, line.last_place())
    table.highest_kick = place
    return switch


def read_head(table, line):
    """`table NAME balls N`."""
    take_name(line)
    take_fixed(line, "balls")
    table.balls = take_number(line, 1, MOST_BALLS)


def read_switch(table, line):
    """`switch NAME at P close C open O`, perhaps `turned`."""
    take_entry(line, table.switches)
    take_fixed(line, "close")
    take_number(line, 1, 31)
    take_fixed(line, "open")
    take_number(line, 1, 31)
    if line.more():
        take_fixed(line, "turned")


def read_lamp(table, line):
    """`lamp NAME at P`."""
    take_entry(line, table.lamps)


def read_coil(table, line):
    """`coil NAME at P most M rest R`, perhaps `hold H`."""
    coil = take_entry(line, table.coils)
    take_fixed(line, "most")
    table.mosts[coil] = take_number(line, 1, 1023)
    take_fixed(line, "rest")
    take_number(line, 1, 4095)
    if line.more():
        take_fixed(line, "hold")
        take_number(line, 1, 15)


def read_device(table, line):
    """`device NAME by COIL holds SWITCH ...`, perhaps `drain`."""
    name = take_new_name(line, table.device_names, "")
    table.device_names[name] = True
    take_fixed(line, "by")
    coil = take_free_coil(table, line)
    take_fixed(line, "holds")
    spots = [take_free_spot(table, line)]
    while line.more() and len(spots) < MOST_HELD and not line.comes("drain"):
        spots.append(take_free_spot(table, line))
    if line.more():
        take_fixed(line, "drain")
        table.drained += len(spots)
    pulse = min(LONGEST_PULSE, table.mosts[coil])
    table.plans.append(Plan(table.coils.places[coil], pulse, spots))


def read_kick(table, line):
    """`kick SWITCH COIL for T`, perhaps `till SWITCH`."""
    switch = take_kick_switch(table, line)
    coil = take_free_coil(table, line)
    take_fixed(line, "for")
    if take_number(line, 1, 255) > table.mosts[coil]:
        raise Fault(7, line.last_place())
    if line.more():
        take_fixed(line, "till")
        if take_known(line, table.switches) == switch:
            raise Fault(7, line.last_place())
    table.kicks += 1


READERS = (read_head, read_switch, read_lamp, read_coil, read_device, read_kick)


def can_come(table, rank):
    """Whether a line of the sort with this rank may stand here."""
    if table.rank == NOTHING_READ:
        return rank == HEAD
    if rank == HEAD or rank < table.rank:
        return False
    if rank == DEVICE:
        return len(table.plans) < MOST_DEVICES
    if rank == KICK:
        return table.kicks < MOST_KICKS
    return True


def take_rank(table, line):
    """Take a line's first word, and answer the rank of its sort."""
    word = line.take()
    for rank, sort in enumerate(SORTS):
        if word.letters == sort and can_come(table, rank):
            return rank
    raise Fault(3, word.place)


def read_line(table, line):
    """Read one line into the table."""
    table.rank = take_rank(table, line)
    reader = READERS[table.rank]
    reader(table, line)
    end_line(line)


def read_table(text):
    """The table that the text tells; the text's first fault is raised."""
    if not text:
        raise Fault(1, 0)
    table = Table()
    start = 0
    while start < len(text):
        line = next_line(text, start)
        read_line(table, line)
        start = line.finish + 1
    if table.drained < table.balls:
        raise Fault(8, len(text))
    return table
