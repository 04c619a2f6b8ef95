"""What one machine holds."""

CHANGING_WORDS = 2048
BANKS = 40
BANK_WORDS = 1024
CHANNELS = 512


class Machine:
    def __init__(self):
        self.begin()

    def begin(self):
        self.a = 0
        self.l = 0
        self.q = 0
        self.eb = 0
        self.fb = 0
        self.z = 0o4000
        self.changing = [0] * CHANGING_WORDS
        self.staying = [0] * (BANKS * BANK_WORDS)
        self.channels = [0] * CHANNELS
        self.begin_turns()

    def begin_turns(self):
        """What one turn leaves for the next, and what the interrupts stand at."""
        self.barred = False
        self.serving = False
        self.asked = 0
        self.extended = False
        self.index_word = 0
        # After RESUME the word that goes in the place of the one at Z, else None.
        self.instead = None
