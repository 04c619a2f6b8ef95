"""Turns: interrupts that come in, and instructions."""

from fifteenbits.first import FIRST_LIST
from fifteenbits.places import read_narrow
from fifteenbits.second import SECOND_LIST
from fifteenbits.words import narrow, overflow, plus, wide


def interrupt_comes_in(machine):
    if machine.asked == 0 or machine.barred or machine.serving:
        return False
    # An INDEX of the second list leaves the next in that list, so it counts as an EXTEND, of +0 too.
    if machine.extended or machine.index_word != 0 or machine.instead is not None:
        return False
    return overflow(machine.a) == 0


def first_asked(machine):
    which = 0
    while machine.asked >> which & 1 == 0:
        which = which + 1
    return which


def come_in(machine):
    which = first_asked(machine)
    word = read_narrow(machine, machine.z)
    machine.changing[0o15] = machine.z
    machine.changing[0o17] = word
    machine.z = 0o4000 + 4 * which
    machine.asked = machine.asked ^ 1 << which
    machine.serving = True


def take_instruction(machine):
    if machine.instead is None:
        word = read_narrow(machine, machine.z)
    else:
        word = machine.instead
        machine.instead = None
    if machine.index_word != 0:
        word = narrow(plus(wide(word), wide(machine.index_word)))
        machine.index_word = 0
    machine.z = machine.z + 1 & 0o7777
    return word


def take_turn(machine):
    if machine.asked != 0 and interrupt_comes_in(machine):
        come_in(machine)
        return
    word = take_instruction(machine)
    if machine.extended:
        machine.extended = False
        SECOND_LIST[word >> 10](machine, word & 0o7777)
    else:
        FIRST_LIST[word >> 10](machine, word & 0o7777)


def stands_still(machine):
    """Whether the next turn is a jump to its own place that changes nothing, and so each one behind it."""
    if machine.extended or machine.index_word != 0 or machine.instead is not None:
        return False
    if interrupt_comes_in(machine):
        return False
    word = read_narrow(machine, machine.z)
    if word == machine.z:
        # A TC; of 2, 3, 4 and 6 it is not one that sets Q and goes there. Q gets Z's 12 bits: behind 07777 comes 0.
        return word not in (2, 3, 4, 6) and machine.q == word + 1 & 0o7777
    # A TCF; below 02000 the word would be a CCS.
    return word == 0o10000 + machine.z and machine.z >= 0o2000


def run(machine, turns):
    for turn in range(turns):
        place = machine.z
        take_turn(machine)
        # A machine that waits in one place would else take ten million turns to change nothing.
        if machine.z == place and stands_still(machine):
            return
