"""Reading and writing by places of 12 bits, and by channels."""

from fifteenbits.words import narrow, wide

WINDOW = 0o1400
FIRST_STAYING = 0o2000


def changing_number(machine, place):
    """The number of the register or changing word at a place below 02000."""
    if place < WINDOW:
        return place
    return place - WINDOW + 256 * machine.eb


def read_staying(machine, place):
    if place >= 0o4000:
        # Banks 2 and 3 begin at 2048 and 3072, which are these places' own numbers.
        return machine.staying[place]
    bank = machine.fb
    if bank >= 0o30 and machine.channels[7] & 0o100:
        bank = bank + 8
    return machine.staying[bank * 1024 + place - FIRST_STAYING]


def read_small_register(machine, number):
    """A register of at most 15 bits, as a narrow word."""
    if number == 1:
        return machine.l
    if number == 3:
        return machine.eb << 8
    if number == 4:
        return machine.fb << 10
    if number == 5:
        return machine.z
    if number == 6:
        return machine.fb << 10 | machine.eb
    return 0


def read_narrow(machine, place):
    if place >= FIRST_STAYING:
        return read_staying(machine, place)
    number = changing_number(machine, place)
    if number > 7:
        return machine.changing[number]
    if number == 0:
        return narrow(machine.a)
    if number == 2:
        return narrow(machine.q)
    return read_small_register(machine, number)


def read_wide(machine, place):
    if place >= FIRST_STAYING:
        return wide(read_staying(machine, place))
    number = changing_number(machine, place)
    if number > 7:
        return wide(machine.changing[number])
    if number == 0:
        return machine.a
    if number == 2:
        return machine.q
    return wide(read_small_register(machine, number))


def write_small_register(machine, number, word):
    if number == 1:
        machine.l = word
    elif number == 3:
        machine.eb = word >> 8 & 7
    elif number == 4:
        machine.fb = word >> 10
    elif number == 5:
        machine.z = word & 0o7777
    elif number == 6:
        machine.fb = word >> 10
        machine.eb = word & 7


def edited(number, word):
    """A narrow word as it is kept at one of the changing words."""
    if number > 0o23:
        return word
    if number == 0o20:
        return word >> 1 | (word & 1) << 14
    if number == 0o21:
        return word >> 1 | word & 0o40000
    if number == 0o22:
        return word << 1 & 0o77777 | word >> 14
    if number == 0o23:
        return word >> 7 & 0o177
    return word


def write(machine, place, word):
    """Put a wide word at a place; the word of a place that is not A or Q is put narrow."""
    if place >= FIRST_STAYING:
        return
    number = changing_number(machine, place)
    if number > 7:
        machine.changing[number] = edited(number, narrow(word))
    elif number == 0:
        machine.a = word
    elif number == 2:
        machine.q = word
    else:
        write_small_register(machine, number, narrow(word))


def edit_anew(machine, place, word):
    """Write a wide word again where it was read, if that is a place that edits."""
    if place < FIRST_STAYING and 0o20 <= changing_number(machine, place) <= 0o23:
        write(machine, place, word)


def read_channel(machine, channel):
    if channel == 1:
        return machine.l
    if channel == 2:
        return narrow(machine.q)
    return machine.channels[channel]


def write_channel(machine, channel, word):
    if channel == 1:
        machine.l = word
    elif channel == 2:
        machine.q = wide(word)
    else:
        machine.channels[channel] = word
