"""The instructions of the second list, behind EXTEND; k is the word's lower twelve bits."""

from fifteenbits.places import edit_anew, read_channel, read_narrow, read_wide, write, write_channel
from fifteenbits.words import MINUS_ONE, amount, is_below, minus_narrow, minus_wide, narrow, number_of
from fifteenbits.words import plus, wide, with_sign

LOWER_TEN = 0o1777
LOWER_TWELVE = 0o7777


def read_in(machine, channel):
    machine.a = wide(read_channel(machine, channel))


def write_out(machine, channel):
    write_channel(machine, channel, narrow(machine.a))


def rand(machine, channel):
    machine.a = wide(narrow(machine.a) & read_channel(machine, channel))


def wand(machine, channel):
    rand(machine, channel)
    write_out(machine, channel)


def ror(machine, channel):
    machine.a = wide(narrow(machine.a) | read_channel(machine, channel))


def wor(machine, channel):
    ror(machine, channel)
    write_out(machine, channel)


def rxor(machine, channel):
    machine.a = wide(narrow(machine.a) ^ read_channel(machine, channel))


def edrupt(machine, channel):
    pass


CHANNEL_LIST = (read_in, write_out, rand, wand, ror, wor, rxor, edrupt)


def by_channel(machine, k):
    CHANNEL_LIST[k >> 9](machine, k & 0o777)


def dv(machine, k):
    upper = narrow(machine.a)
    divisor = read_narrow(machine, k)
    dividend = number_of(upper) * 0o40000 + number_of(machine.l)
    below = dividend < 0 or dividend == 0 and is_below(upper)
    differ = below != is_below(divisor)
    size = amount(divisor)
    if size == 0 or abs(dividend) // size > 0o37777:
        machine.a = wide(with_sign(0o37777, differ))
        return
    machine.a = wide(with_sign(abs(dividend) // size, differ))
    machine.l = with_sign(abs(dividend) % size, below)


def bzf(machine, k):
    if machine.a == 0 or machine.a == 0o177777:
        machine.z = k


def msu(machine, k):
    difference = narrow(machine.a) - read_narrow(machine, k) & 0o77777
    if difference >= 0o40000:
        difference = difference - 1
    machine.a = wide(difference)


def qxch(machine, k):
    e = k & LOWER_TEN
    old = machine.q
    machine.q = read_wide(machine, e)
    write(machine, e, old)


def aug(machine, k):
    e = k & LOWER_TEN
    word = read_wide(machine, e)
    if word & 0o100000:
        write(machine, e, plus(word, MINUS_ONE))
    else:
        write(machine, e, plus(word, 1))


def dim(machine, k):
    e = k & LOWER_TEN
    word = read_wide(machine, e)
    if word == 0 or word == 0o177777:
        return
    if word & 0o100000:
        write(machine, e, plus(word, 1))
    else:
        write(machine, e, plus(word, MINUS_ONE))


def edit_pair_anew(machine, k, lower_word, upper_word):
    edit_anew(machine, k, wide(lower_word))
    edit_anew(machine, k - 1 & LOWER_TWELVE, upper_word)


def dca(machine, k):
    lower_word = read_narrow(machine, k)
    upper_word = read_wide(machine, k - 1 & LOWER_TWELVE)
    machine.l = lower_word
    machine.a = upper_word
    edit_pair_anew(machine, k, lower_word, upper_word)


def dcs(machine, k):
    lower_word = read_narrow(machine, k)
    upper_word = read_wide(machine, k - 1 & LOWER_TWELVE)
    machine.l = minus_narrow(lower_word)
    machine.a = minus_wide(upper_word)
    edit_pair_anew(machine, k, lower_word, upper_word)


def index_extended(machine, k):
    word = read_narrow(machine, k)
    machine.index_word = word
    machine.extended = True
    edit_anew(machine, k, wide(word))


def su(machine, k):
    word = read_wide(machine, k)
    machine.a = plus(machine.a, minus_wide(word))
    edit_anew(machine, k, word)


def bzmf(machine, k):
    if machine.a == 0 or machine.a & 0o100000:
        machine.z = k


def mp(machine, k):
    one = narrow(machine.a)
    other = read_narrow(machine, k)
    product = amount(one) * amount(other)
    differ = is_below(one) != is_below(other)
    machine.a = wide(with_sign(product >> 14, differ))
    machine.l = with_sign(product & 0o37777, differ)


# By the word's upper five bits.
SECOND_LIST = (
    by_channel, by_channel, by_channel, by_channel,
    dv, bzf, bzf, bzf,
    msu, qxch, aug, dim,
    dca, dca, dca, dca,
    dcs, dcs, dcs, dcs,
    index_extended, index_extended, index_extended, index_extended,
    su, bzmf, bzmf, bzmf,
    mp, mp, mp, mp,
)
