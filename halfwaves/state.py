"""What a receiver keeps, and the calls that it is kept for."""

from halfwaves.halves import ONE
from halfwaves.halves import bits_of
from halfwaves.halves import product
from halfwaves.pairs import and_by
from halfwaves.pairs import and_by_opposite
from halfwaves.pairs import by
from halfwaves.pairs import lessened
from halfwaves.pairs import row_of


def heard(taps, latest):
    """What taps make of the latest sixteen numbers, the newest first."""
    total = (0, 0)
    for tap, number in zip(taps, latest):
        total = and_by(total, tap, number)
    return total


# All numbers in it are values and pairs of them; told alone makes halves of them.
class Receiver:
    def __init__(self):
        self.begin()

    def begin(self):
        self.taps = [(ONE, 0)] + [(0, 0)] * 15
        self.came = [(0, 0)] * 15
        self.rate = 0
        self.phase = (ONE, 0)
        self.step = (ONE, 0)

    def take(self, number):
        """Let a number come; the latest sixteen, the newest first."""
        latest = [number] + self.came
        self.came = latest[:15]
        return latest

    def filtered(self, signal):
        row = []
        for number in signal:
            latest = self.take(number)
            row.append(heard(self.taps, latest))
        return row

    def learned(self, signal, wanted):
        """Change the taps number by number; by how much each number was missed."""
        errors = []
        for number, aim in zip(signal, wanted):
            latest = self.take(number)
            error = lessened(aim, heard(self.taps, latest))
            self.change_taps(error, latest)
            errors.append(error)
        return errors

    def change_taps(self, error, latest):
        gain = (product(error[0], self.rate), product(error[1], self.rate))
        self.taps = [and_by_opposite(tap, gain, number) for tap, number in zip(self.taps, latest)]

    def turned(self, signal):
        row = []
        for number in signal:
            row.append(by(number, self.phase))
            self.phase = by(self.phase, self.step)
        return row

    def told(self):
        """All that is kept, as halves."""
        filter_row = row_of(self.taps) + row_of(self.came)
        return filter_row + [bits_of(self.rate)] + row_of([self.phase, self.step])
