"""A line of calls on one machine, and its answers."""

from fifteenbits.counters import ask_for, pulse_down, pulse_up
from fifteenbits.machine import BANK_WORDS, BANKS, Machine
from fifteenbits.panel import is_word, look_at, poke_in, set_value, shown_values
from fifteenbits.turns import run

DONE = 0
REFUSED = -1
LAST_VALUE = 8


class Reader:
    """Goes through the numbers of a line."""

    def __init__(self, numbers):
        self.numbers = numbers
        self.position = 0

    def has_more(self):
        return self.position < len(self.numbers)

    def take_number(self):
        number = self.numbers[self.position]
        self.position = self.position + 1
        return number

    def take_row(self):
        how_many = self.take_number()
        start = self.position
        self.position = start + how_many
        return self.numbers[start:self.position]


def answer_begin(machine, reader):
    machine.begin()
    return DONE


def answer_load(machine, reader):
    bank = reader.take_number()
    at = reader.take_number()
    n = reader.take_number()
    words = reader.take_row()
    if bank >= BANKS or at + n > BANK_WORDS:
        return REFUSED
    start = bank * BANK_WORDS + at
    for offset, word in enumerate(words):
        machine.staying[start + offset] = word & 0o77777
    return DONE


def answer_run(machine, reader):
    n = reader.take_number()
    if n < 0 or n > 10000000:
        return REFUSED
    run(machine, n)
    return DONE


def answer_ask(machine, reader):
    k = reader.take_number()
    if k < 0 or k > 10:
        return REFUSED
    ask_for(machine, k)
    return DONE


def answer_pulse(machine, reader):
    k = reader.take_number()
    down = reader.take_number()
    if k < 0o24 or k > 0o60:
        return REFUSED
    if down == 1:
        pulse_down(machine, k)
    elif down == 0:
        pulse_up(machine, k)
    else:
        return REFUSED
    return DONE


def answer_get(machine, reader):
    k = reader.take_number()
    if k < 0 or k > LAST_VALUE:
        return REFUSED
    return shown_values(machine)[k]


def answer_set(machine, reader):
    k = reader.take_number()
    v = reader.take_number()
    if k < 0 or k > LAST_VALUE:
        return REFUSED
    set_value(machine, k, v)
    return DONE


def answer_look(machine, reader):
    kind = reader.take_number()
    k = reader.take_number()
    if not is_word(kind, k):
        return REFUSED
    return look_at(machine, kind, k)


def answer_poke(machine, reader):
    kind = reader.take_number()
    k = reader.take_number()
    v = reader.take_number()
    if not is_word(kind, k):
        return REFUSED
    poke_in(machine, kind, k, v & 0o77777)
    return DONE


CALLS = {
    1: answer_begin, 2: answer_load, 3: answer_run, 4: answer_ask, 5: answer_pulse,
    6: answer_get, 7: answer_set, 8: answer_look, 9: answer_poke,
}


def follow(machine, calls):
    """Carry out a line of calls on a machine; gives back the answers, each with its count ahead."""
    reader = Reader(calls)
    given = []
    while reader.has_more():
        answer_call = CALLS[reader.take_number()]
        given.append(1)
        given.append(answer_call(machine, reader))
    return given


def answers(calls):
    return follow(Machine(), calls)
