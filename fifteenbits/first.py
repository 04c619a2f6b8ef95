"""The instructions of the first list; k is the word's lower twelve bits."""

from fifteenbits.places import edit_anew, read_narrow, read_wide, write
from fifteenbits.words import minus_wide, narrow, overflow, plus, wide

LOWER_TEN = 0o1777


def leave_out(machine, how_many):
    machine.z = machine.z + how_many & 0o7777


def tc(machine, k):
    if k == 3:
        machine.barred = False
    elif k == 4:
        machine.barred = True
    elif k == 6:
        machine.extended = True
    else:
        if k != 2:
            machine.q = machine.z
        machine.z = k


def ccs(machine, k):
    word = read_wide(machine, k)
    edit_anew(machine, k, word)
    if word == 0:
        machine.a = 0
        leave_out(machine, 1)
    elif word == 0o177777:
        machine.a = 0
        leave_out(machine, 3)
    elif word & 0o100000:
        machine.a = minus_wide(word) - 1
        leave_out(machine, 2)
    else:
        # The amount is a number: of 1 it leaves +0, where a sum would leave -0.
        machine.a = word - 1


def tcf(machine, k):
    machine.z = k


def das(machine, k):
    # The pair's lower word is at k itself, at 0 too, where the upper one is at 01777.
    upper = k - 1 & LOWER_TEN
    low = plus(wide(machine.l), wide(read_narrow(machine, k)))
    high = plus(plus(machine.a, read_wide(machine, upper)), overflow(low))
    machine.a = overflow(high)
    machine.l = 0
    write(machine, k, low)
    write(machine, upper, high)


def lxch(machine, k):
    e = k & LOWER_TEN
    old = machine.l
    machine.l = read_narrow(machine, e)
    write(machine, e, wide(old))


def incr(machine, k):
    e = k & LOWER_TEN
    write(machine, e, plus(read_wide(machine, e), 1))


def ads(machine, k):
    e = k & LOWER_TEN
    total = plus(machine.a, read_wide(machine, e))
    machine.a = total
    write(machine, e, total)


def ca(machine, k):
    word = read_wide(machine, k)
    machine.a = word
    edit_anew(machine, k, word)


def cs(machine, k):
    word = read_wide(machine, k)
    machine.a = minus_wide(word)
    edit_anew(machine, k, word)


def resume(machine):
    machine.z = machine.changing[0o15] & 0o7777
    machine.instead = machine.changing[0o17]
    machine.serving = False


def index_next(machine, k):
    if k == 0o17:
        resume(machine)
        return
    word = read_narrow(machine, k)
    machine.index_word = word
    edit_anew(machine, k, wide(word))


def dxch(machine, k):
    e = k & LOWER_TEN
    upper = e - 1 & LOWER_TEN
    old_a = machine.a
    old_l = machine.l
    new_l = read_narrow(machine, e)
    machine.a = read_wide(machine, upper)
    machine.l = new_l
    write(machine, upper, old_a)
    write(machine, e, wide(old_l))


def ts(machine, k):
    e = k & LOWER_TEN
    over = overflow(machine.a)
    if e == 0:
        if over != 0:
            leave_out(machine, 1)
        return
    if over == 0:
        write(machine, e, machine.a)
        return
    write(machine, e, wide(narrow(machine.a)))
    if e != 5:
        leave_out(machine, 1)
    machine.a = over


def xch(machine, k):
    e = k & LOWER_TEN
    old = machine.a
    machine.a = read_wide(machine, e)
    write(machine, e, old)


def ad(machine, k):
    word = read_wide(machine, k)
    machine.a = plus(machine.a, word)
    edit_anew(machine, k, word)


def mask(machine, k):
    machine.a = wide(narrow(machine.a) & read_narrow(machine, k))


# By the word's upper five bits.
FIRST_LIST = (
    tc, tc, tc, tc,
    ccs, tcf, tcf, tcf,
    das, lxch, incr, ads,
    ca, ca, ca, ca,
    cs, cs, cs, cs,
    index_next, dxch, ts, xch,
    ad, ad, ad, ad,
    mask, mask, mask, mask,
)
