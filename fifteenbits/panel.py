"""What is seen and set from outside: values by get's numbers, words by their kinds and numbers."""

from fifteenbits.machine import BANK_WORDS, BANKS, CHANGING_WORDS, CHANNELS
from fifteenbits.places import read_channel, write_channel

STAYING = 0
CHANGING = 1
CHANNEL = 2


def shown_values(machine):
    """What is to be seen of a machine, each value at its number."""
    return (
        machine.a, machine.l, machine.q, machine.eb, machine.fb, machine.z,
        int(machine.barred), int(machine.serving), machine.asked,
    )


def set_value(machine, k, v):
    """Set the value that is shown at k; of v as many of the lower bits as it has."""
    if k == 0:
        machine.a = v & 0o177777
    elif k == 1:
        machine.l = v & 0o77777
    elif k == 2:
        machine.q = v & 0o177777
    elif k == 3:
        machine.eb = v & 0o7
    elif k == 4:
        machine.fb = v & 0o37
    elif k == 5:
        machine.z = v & 0o7777
    elif k == 6:
        machine.barred = v & 1 == 1
    elif k == 7:
        machine.serving = v & 1 == 1
    elif k == 8:
        machine.asked = v & 0o3777


def is_word(kind, k):
    if kind == STAYING:
        return 0 <= k < BANKS * BANK_WORDS
    if kind == CHANGING:
        # The numbers below 8 are the registers', which get and set tell of.
        return 8 <= k < CHANGING_WORDS
    if kind == CHANNEL:
        return 0 <= k < CHANNELS
    return False


def look_at(machine, kind, k):
    if kind == STAYING:
        return machine.staying[k]
    if kind == CHANGING:
        return machine.changing[k]
    return read_channel(machine, k)


def poke_in(machine, kind, k, word):
    if kind == STAYING:
        machine.staying[k] = word
    elif kind == CHANGING:
        # Straight into the row: what goes by a place would be edited.
        machine.changing[k] = word
    else:
        write_channel(machine, k, word)
