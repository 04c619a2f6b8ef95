"""Words in ones' complement: narrow ones of 15 bits, wide ones of 16 with the sign twice."""

MINUS_ONE = 0o177776


def wide(word):
    return word | (word & 0o40000) << 1


def narrow(word):
    return (word & 0o100000) >> 1 | word & 0o37777


def plus(one, other):
    total = one + other
    return (total & 0o177777) + (total >> 16)


def minus_wide(word):
    return word ^ 0o177777


def minus_narrow(word):
    return word ^ 0o77777


def overflow(word):
    signs = word >> 14
    if signs == 1:
        return 1
    if signs == 2:
        return MINUS_ONE
    return 0


def is_below(word):
    """Whether the sign of a narrow word is set; so -0 counts as below 0, too."""
    return word & 0o40000 != 0


def amount(word):
    if is_below(word):
        return minus_narrow(word)
    return word


def number_of(word):
    """What a narrow word stands for; +0 and -0 are both 0."""
    if is_below(word):
        return -minus_narrow(word)
    return word


def with_sign(size, below):
    """The narrow word of an amount; below 0 an amount of 0 gives -0."""
    if below:
        return minus_narrow(size)
    return size
