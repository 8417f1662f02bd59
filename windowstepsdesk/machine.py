"""The machine: registers and windows, Y, the conditions, the two places and the mask."""

from windowstepsdesk.words import FULL, with_sign


class Machine:
    """One machine. Its conditions are one number of four bits: N 8, Z 4, V 2, C 1."""

    def __init__(self):
        self.reset()

    def reset(self):
        """The machine becomes as promised of reset."""
        self.common = [0] * 8
        self.windowed = [0] * 128
        self.y = 0
        self.conditions = 0
        self.window = 0
        self.mask = 2
        self.place = 0
        self.follower = 4

    def slot(self, number):
        """Where register 8 to 31 of the current window lies.

        Each window has 16 of its own, its outs first; so its ins, that come behind them,
        are the outs of the window above, and no value has to be kept twice.
        """
        return (16 * self.window + number - 8) & 127

    def read(self, number):
        """What is in a register of the current window."""
        if number < 8:
            return self.common[number]
        return self.windowed[self.slot(number)]

    def write(self, number, value):
        """A register of the current window becomes value; 0 stays 0."""
        if number > 7:
            self.windowed[self.slot(number)] = value
        elif number > 0:
            self.common[number] = value

    def second(self, word):
        """The operand b of an instruction of 2 or 3."""
        if (word & 0x2000) != 0:
            return with_sign(word, 13) & FULL
        return self.read(word & 31)

    def go_on(self):
        """On to the next instruction."""
        self.place = self.follower
        self.follower = (self.follower + 4) & FULL

    def jump(self, target):
        """A jump: the next instruction is still done, then the one at target."""
        self.place = self.follower
        self.follower = target & FULL

    def move_to(self, target):
        """The instruction at target is done next, the ones behind it follow."""
        self.place = target & FULL
        self.follower = (target + 4) & FULL
