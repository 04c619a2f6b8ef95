"""Pulses that count words up and down."""

from fifteenbits.words import MINUS_ONE, narrow, overflow, plus, wide

# Which interrupt a counter asks for when it overflows.
ASKED_BY = {0o26: 3, 0o27: 4, 0o30: 2}


def count_by(machine, number, step):
    """Add a wide word to a changing word; answers the sum's overflow."""
    total = plus(wide(machine.changing[number]), step)
    machine.changing[number] = narrow(total)
    return overflow(total)


def ask_for(machine, which):
    machine.asked = machine.asked | 1 << which


def pulse_down(machine, number):
    count_by(machine, number, MINUS_ONE)


def pulse_up(machine, number):
    if count_by(machine, number, 1) != 1:
        return
    if number == 0o25:
        count_by(machine, 0o24, 1)
    elif number in ASKED_BY:
        ask_for(machine, ASKED_BY[number])
