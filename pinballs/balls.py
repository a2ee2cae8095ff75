"""The calls, handed in and answered as whole numbers."""

from pinballs.game import Game

BEGIN = 1
TICKS = 2
LARGE = 3
DEVICE = 4


class Tape:
    """The numbers of the calls, to be taken one behind another."""

    def __init__(self, numbers):
        self.numbers = numbers
        self.taken = 0

    def more(self):
        """Whether a number is left."""
        return self.taken < len(self.numbers)

    def take(self):
        """The next number."""
        number = self.numbers[self.taken]
        self.taken += 1
        return number

    def take_row(self):
        """The next row, which has its length before it."""
        length = self.take()
        row = self.numbers[self.taken:self.taken + length]
        self.taken += length
        return row


def answers(calls):
    """Answer calls on one new object, each answer with its length before it."""
    game = Game()
    tape = Tape(calls)
    given = []
    while tape.more():
        answer = answer_call(game, tape)
        given.append(len(answer))
        given.extend(answer)
    return given


def answer_call(game, tape):
    """Take one call, and answer it."""
    number = tape.take()
    if number == BEGIN:
        mask = tape.take()
        return game.begin(mask, tape.take_row())
    if number == TICKS:
        return game.run_ticks(tape.take_row())
    if number == LARGE:
        return game.tell_large()
    if number == DEVICE:
        return game.tell_device(tape.take())
    return game.tell_search()
