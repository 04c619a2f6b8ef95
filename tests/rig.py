"""Machines that are set by hand, a check of everything that they hold, and lines of calls."""

import unittest

from fifteenbits.guide import answers
from fifteenbits.machine import Machine
from fifteenbits.turns import run

START = 0o4000
EXTEND = 0o00006

FIRST = {
    "TC": 0o00000, "CCS": 0o10000, "TCF": 0o10000, "DAS": 0o20000, "LXCH": 0o22000, "INCR": 0o24000,
    "ADS": 0o26000, "CA": 0o30000, "CS": 0o40000, "INDEX": 0o50000, "DXCH": 0o52000, "TS": 0o54000,
    "XCH": 0o56000, "AD": 0o60000, "MASK": 0o70000,
}
SECOND = {
    "READ": 0o00000, "WRITE": 0o01000, "RAND": 0o02000, "WAND": 0o03000, "ROR": 0o04000, "WOR": 0o05000,
    "RXOR": 0o06000, "EDRUPT": 0o07000, "DV": 0o10000, "BZF": 0o10000, "MSU": 0o20000, "QXCH": 0o22000,
    "AUG": 0o24000, "DIM": 0o26000, "DCA": 0o30000, "DCS": 0o40000, "XINDEX": 0o50000, "SU": 0o60000,
    "BZMF": 0o60000, "MP": 0o70000,
}
ROWS = ("changing", "staying", "channels")

BEGIN, LOAD, RUN, ASK, PULSE, GET, SET, LOOK, POKE = range(1, 10)
A, L, Q, EB, FB, Z, BARRED, SERVING, ASKED = range(9)
STAYING, CHANGING, CHANNEL = range(3)
LEAST_INT = -2147483648
MOST_INT = 2147483647
MOST_NUMBER = 4294967295
# What get tells of a new machine, from 0 to 8.
NEW = [0, 0, 0, 0, 0, 0o4000, 0, 0, 0]
GET_ALL = [[GET, k] for k in range(9)]


def code(name, k):
    """The word of an instruction, k as it stands in the word."""
    return (FIRST[name] if name in FIRST else SECOND[name]) | k


def program(name, k):
    if name in FIRST:
        return [code(name, k)]
    return [EXTEND, code(name, k)]


def load(bank, at, words, n=None):
    return [LOAD, bank, at, len(words) if n is None else n, len(words)] + list(words)


def line_of(calls):
    """Calls one behind another in one list, begin first."""
    return [BEGIN] + [number for call in calls for number in call]


def answered(calls):
    """What is answered to these calls behind begin; each answer must have its count ahead, which is 1."""
    given = answers(line_of(calls))
    if given[:2] != [1, 0] or given[0::2] != [1] * (len(calls) + 1) or len(given) != 2 * len(calls) + 2:
        raise AssertionError(given)
    return given[3::2]


def put(machine, state):
    """Set what is named; of the rows only the numbers that are named."""
    for name, value in state.items():
        if name in ROWS:
            row = getattr(machine, name)
            for number, word in value.items():
                row[number] = word
        else:
            if name not in vars(machine):
                raise KeyError(name)
            setattr(machine, name, value)


def made(words=(), **state):
    """A machine with words from 04000 on and the state that is told."""
    machine = Machine()
    for offset, word in enumerate(words):
        machine.staying[START + offset] = word
    put(machine, state)
    return machine


def told(machine):
    """All that a machine holds, as a dict; of the rows the words that are not 0."""
    held = dict(vars(machine))
    for name in ROWS:
        held[name] = {number: oct(word) for number, word in enumerate(held[name]) if word}
    for name in ("a", "l", "q", "z", "index_word"):
        held[name] = oct(held[name])
    return held


class MachineCase(unittest.TestCase):
    maxDiff = None

    def same(self, machine, expected, message=None):
        self.assertEqual(told(machine), told(expected), message)

    def ran(self, words, before, after, turns=None):
        """Run words from 04000 on, one turn each; what `after` does not name must be as it was."""
        turns = len(words) if turns is None else turns
        machine = made(words, **before)
        run(machine, turns)
        expected = made(words, **before)
        put(expected, {"z": START + turns})
        put(expected, after)
        self.same(machine, expected, ([oct(word) for word in words], before))

    def does(self, name, k, before, after):
        """One instruction (behind EXTEND, if it is of the second list)."""
        self.ran(program(name, k), before, after)
