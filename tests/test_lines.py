"""Whole lines: all nine calls together, programs that are loaded and run, begin again, one line behind another."""

import unittest

from fifteenbits.guide import answers
from rig import (A, ASK, ASKED, BARRED, BEGIN, CHANGING, CHANNEL, EB, EXTEND, FB, GET, GET_ALL, L, LEAST_INT, LOOK,
                 MOST_INT, MOST_NUMBER, NEW, POKE, PULSE, Q, RUN, SERVING, SET, STAYING, Z, answered, code, line_of,
                 load)

RESUME = code("INDEX", 0o17)
INCR = code("INCR", 0o100)

# Each row: a call and its answer.
NINE = (
    (load(2, 0, [code("CA", 0o101), code("AD", 0o102), code("TS", 0o103)]), 0), ([POKE, CHANGING, 0o101, 0o1000], 0),
    ([POKE, CHANGING, 0o102, 0o234], 0), ([RUN, 3], 0), ([LOOK, CHANGING, 0o103], 0o1234), ([GET, A], 0o1234),
    ([GET, Z], 0o4003), ([SET, Z, 0o4000], 0), ([SET, 9, 0], -1), ([ASK, 5], 0), ([GET, ASKED], 0o40), ([ASK, 11], -1),
    ([RUN, 1], 0), ([GET, Z], 0o4024), ([GET, SERVING], 1), ([LOOK, CHANGING, 0o15], 0o4000),
    ([LOOK, CHANGING, 0o17], code("CA", 0o101)), ([PULSE, 0o24, 1], 0), ([LOOK, CHANGING, 0o24], 0o77776),
    ([PULSE, 0o61, 0], -1), ([LOOK, 3, 0], -1), ([POKE, STAYING, 40960, 1], -1), ([RUN, -1], -1), (load(40, 0, []), -1),
    ([GET, -1], -1), ([BEGIN], 0), ([GET, Z], 0o4000), ([GET, SERVING], 0), ([LOOK, CHANGING, 0o103], 0),
    ([LOOK, STAYING, 2048], 0), ([RUN, 10000000], 0), ([GET, Q], 1), ([GET, Z], 0),
)

# The main program counts at 0100. Interrupt 2 counts at 0101; interrupt 3 adds that to 0102, and keeps A.
CLOCK = (
    (load(2, 0, [code("TCF", 0o5000)]), 0), (load(2, 0o10, [code("INCR", 0o101), RESUME]), 0),
    (load(2, 0o14, [code("TS", 0o110), code("CA", 0o102), code("AD", 0o101), code("TCF", 0o4100)]), 0),
    (load(2, 0o100, [code("TS", 0o102), code("CA", 0o110), RESUME]), 0),
    (load(2, 512, [INCR, code("TCF", 0o5000)]), 0), ([RUN, 3], 0), ([GET, Z], 0o5000),
    ([POKE, CHANGING, 0o30, 0o37776], 0), ([PULSE, 0o30, 0], 0), ([GET, ASKED], 0), ([PULSE, 0o30, 0], 0),
    ([GET, ASKED], 4), ([LOOK, CHANGING, 0o30], 0), ([RUN, 1], 0), ([GET, Z], 0o4010), ([GET, SERVING], 1),
    ([GET, ASKED], 0), ([LOOK, CHANGING, 0o15], 0o5000), ([LOOK, CHANGING, 0o17], INCR), ([RUN, 2], 0),
    ([GET, Z], 0o5000), ([GET, SERVING], 0), ([LOOK, CHANGING, 0o100], 1), ([RUN, 2], 0),
    ([LOOK, CHANGING, 0o100], 2), ([LOOK, CHANGING, 0o101], 1), ([SET, A, 0o101234], 0), ([ASK, 3], 0), ([RUN, 4], 0),
    ([GET, ASKED], 8), ([LOOK, CHANGING, 0o100], 4), ([SET, A, 0o141234], 0), ([SET, BARRED, 1], 0), ([RUN, 4], 0),
    ([GET, ASKED], 8), ([LOOK, CHANGING, 0o100], 6), ([SET, BARRED, 0], 0), ([RUN, 1], 0), ([GET, Z], 0o4014),
    ([ASK, 2], 0), ([RUN, 7], 0), ([GET, Z], 0o5000), ([GET, A], 0o141234), ([LOOK, CHANGING, 0o102], 1),
    ([GET, ASKED], 4), ([GET, SERVING], 0), ([RUN, 1], 0), ([LOOK, CHANGING, 0o100], 7), ([RUN, 1], 0),
    ([GET, Z], 0o4010), ([RUN, 2], 0), ([GET, Z], 0o5001), ([LOOK, CHANGING, 0o101], 2), ([RUN, 1000], 0),
    ([LOOK, CHANGING, 0o100], 507), ([GET, Z], 0o5001), ([GET, BARRED], 0),
)

# A goes to bank 033, and there by channel 7 to bank 043; a product is divided by one of its factors again.
BANKS = (
    (load(0o33, 0, [code("CS", 0o100)]), 0), (load(0o43, 0, [code("CA", 0o100)]), 0),
    (load(0o43, 1, [EXTEND, code("MP", 0o101), EXTEND, code("DV", 0o101), code("TC", 2)]), 0),
    ([POKE, CHANGING, 0o100, 0o77777 - 5349], 0), ([POKE, CHANGING, 0o101, 8000], 0), ([SET, FB, 0o33], 0),
    ([SET, Z, 0o2000], 0), ([RUN, 1], 0), ([GET, A], 5349), ([POKE, CHANNEL, 7, 0o100], 0), ([SET, Z, 0o2000], 0),
    ([RUN, 1], 0), ([GET, A], 0o177777 - 5349), ([RUN, 2], 0), ([GET, A], 0o177777 - 2611), ([GET, L], 0o77777 - 13376),
    ([LOOK, CHANNEL, 1], 0o77777 - 13376), ([RUN, 2], 0), ([GET, A], 0o177777 - 5349), ([GET, L], 0o77777),
    ([POKE, CHANNEL, 2, 0o10000 + 0o2005], 0), ([GET, Q], 0o12005), ([RUN, 2], 0), ([GET, Z], 0o2005),
    ([GET, FB], 0o33), ([GET, EB], 0), ([SET, EB, 0o17], 0), ([GET, EB], 7),
    ([LOOK, STAYING, 0o43 * 1024 + 2], 0o70101),
    ([LOOK, STAYING, 0o33 * 1024], 0o40100), ([LOOK, CHANNEL, 7], 0o100), ([LOOK, CHANNEL, 2], 0o12005),
)
LINES = (NINE, CLOCK, BANKS)


def calls_of(rows):
    return [call for call, answer in rows]


def answers_of(rows):
    return [answer for call, answer in rows]


class Guarded(list):
    """A list that fails where it is to be changed."""

    def fail(self, *given):
        raise AssertionError("changed")

    append = clear = extend = insert = pop = remove = reverse = sort = fail
    __setitem__ = __delitem__ = __iadd__ = __imul__ = fail


class Lines(unittest.TestCase):
    def test_answers_in_order(self):
        for rows in LINES:
            given = answered(calls_of(rows))
            for place, (call, answer) in enumerate(rows):
                self.assertEqual(given[place], answer, (place, call))

    def test_each_with_its_count_ahead(self):
        for rows in LINES:
            expected = [1, 0]
            for call, answer in rows:
                expected = expected + [1, answer]
            given = answers(line_of(calls_of(rows)))
            self.assertEqual(given, expected)
            self.assertIs(type(given), list)
            self.assertEqual({type(number) for number in given}, {int})

    def test_one_begun_behind_another(self):
        calls = []
        expected = []
        for rows in LINES + LINES[:1]:
            calls = calls + calls_of(rows) + [[BEGIN]]
            expected = expected + answers_of(rows) + [0]
        self.assertEqual(answered(calls), expected)

    def test_one_called_behind_another(self):
        for rows in LINES + LINES:
            self.assertEqual(answered(calls_of(rows)), answers_of(rows))
            self.assertEqual(answered(GET_ALL), NEW)

    def test_what_is_handed_in_stays(self):
        for rows in LINES:
            calls = line_of(calls_of(rows))
            handed_in = Guarded(calls)
            answers(handed_in)
            self.assertEqual(list(handed_in), calls)

    def test_a_tc_at_the_last_place(self):
        words = [code("CA", 0o4010), code("XCH", 2), code("CA", 0o4010), code("TS", 0o100), code("TCF", 0o7776)]
        calls = [load(2, 0, words), load(2, 8, [0o10000]), load(3, 1022, [code("INDEX", 0o100), code("TC", 0o7777)])]
        for turns, q in ((7, 0o10000), (8, 0), (9, 0), (10000000, 0)):
            self.assertEqual(answered(calls + [[RUN, turns], [GET, Q], [GET, Z]])[4:], [q, 0o7777])

    def test_300_calls(self):
        calls = [[GET, k % 9] for k in range(299)]
        self.assertEqual(answered(calls), [NEW[k % 9] for k in range(299)])
        calls = [[PULSE, 20, 0], [LOOK, CHANGING, 20]] * 149
        self.assertEqual(answered(calls), [answer for k in range(1, 150) for answer in (0, k)])

    def test_whole_banks(self):
        words = [(word * 37 + 5) % 65536 for word in range(1024)]
        calls = [load(bank, 0, words) for bank in (0, 2, 3, 20, 39)]
        numbers = [1024 * bank + at for bank in (0, 2, 3, 20, 39) for at in range(0, 1024, 33)]
        given = answered(calls + [[LOOK, STAYING, number] for number in numbers])
        self.assertEqual(given[5:], [words[number % 1024] % 32768 for number in numbers])

    def test_the_farthest_arguments(self):
        calls = [call for k in (LEAST_INT, MOST_INT) for call in
                 ([RUN, k], [ASK, k], [PULSE, k, k], [GET, k], [SET, k, MOST_NUMBER], [LOOK, k, k],
                  [POKE, k, k, MOST_NUMBER])]
        calls = calls + [load(MOST_NUMBER, MOST_NUMBER, [], n=MOST_NUMBER)]
        self.assertEqual(answered(calls), [-1] * 15)


class BeginAgain(unittest.TestCase):
    POKED = ([(STAYING, k) for k in (0, 1023, 2047, 2048, 2049, 4095, 40959)]
             + [(CHANGING, k) for k in (8, 0o15, 0o17, 0o20, 0o24, 0o60, 0o100, 255, 256, 2047)]
             + [(CHANNEL, k) for k in (0, 1, 2, 3, 7, 511)])
    FILLED = [[POKE, kind, k, MOST_NUMBER] for kind, k in POKED] + [[SET, k, MOST_NUMBER] for k in range(9)]
    SEEN = [[LOOK, kind, k] for kind, k in POKED]

    def test_all_is_as_in_a_new_machine(self):
        calls = self.FILLED + self.SEEN + GET_ALL + [[BEGIN]] + GET_ALL + self.SEEN + GET_ALL
        given = answered(calls)[len(self.FILLED):]
        self.assertEqual(given[:len(self.SEEN)], [0o77777] * len(self.SEEN))
        behind = given[len(self.SEEN) + 9:]
        self.assertEqual(behind, [0] + NEW + [0] * len(self.SEEN) + NEW)

    def test_begin_at_once_and_twice(self):
        self.assertEqual(answered([[BEGIN], [BEGIN]] + GET_ALL), [0, 0] + NEW)

    def test_nothing_is_left_for_the_next_turn(self):
        for word in (EXTEND, code("INDEX", 0o100), RESUME, 4):
            left = [load(2, 0, [word]), [POKE, CHANGING, 0o100, 3], [POKE, CHANGING, 0o17, code("CS", 5)], [RUN, 1]]
            calls = left + [[BEGIN], load(2, 0, [code("CA", 5)]), [RUN, 1]] + GET_ALL
            self.assertEqual(answered(calls)[-9:], [0o4001, 0, 0, 0, 0, 0o4001, 0, 0, 0], oct(word))
            calls = left + [[BEGIN], [ASK, 3], [RUN, 1]] + GET_ALL
            self.assertEqual(answered(calls)[-9:], [0, 0, 0, 0, 0, 0o4014, 0, 1, 0], oct(word))

    def test_programs_are_gone(self):
        calls = [load(2, 0, [code("CA", 5)] * 5), [RUN, 3], [BEGIN], [RUN, 1]] + GET_ALL
        self.assertEqual(answered(calls)[-9:], [0, 0, 0o4001, 0, 0, 0, 0, 0, 0])


if __name__ == "__main__":
    unittest.main()
