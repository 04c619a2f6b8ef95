"""get, set, look and poke, as lines of calls answer them."""

import unittest

from rig import (A, ASK, ASKED, BARRED, CHANGING, CHANNEL, EB, EXTEND, FB, GET, GET_ALL, L, LEAST_INT, LOOK, MOST_INT,
                 MOST_NUMBER, NEW, POKE, PULSE, Q, RUN, SERVING, SET, STAYING, Z, answered, code, load)

RESUME = code("INDEX", 0o17)
MOST_OF = [0o177777, 0o77777, 0o177777, 0o7, 0o37, 0o7777, 1, 1, 0o3777]
# The first and the last number of each kind.
EDGES = ((STAYING, 0, 40959), (CHANGING, 8, 2047), (CHANNEL, 0, 511))
NO_WORDS = (
    (STAYING, -1), (STAYING, 40960), (CHANGING, 7), (CHANGING, 2048), (CHANGING, 0), (CHANGING, -1), (CHANNEL, -1),
    (CHANNEL, 512), (-1, 8), (3, 8), (-1, 0), (3, 0), (LEAST_INT, 8), (MOST_INT, 8), (STAYING, MOST_INT),
    (STAYING, LEAST_INT), (CHANGING, MOST_INT), (CHANGING, LEAST_INT), (CHANNEL, MOST_INT), (CHANNEL, LEAST_INT),
)
NO_VALUES = (-1, 9, 10, LEAST_INT, MOST_INT)


def got(calls):
    """What get tells from 0 to 8 behind some calls."""
    return answered(list(calls) + GET_ALL)[-9:]


def changed(values):
    """What get tells of a machine that is new but for these values."""
    return [values.get(k, NEW[k]) for k in range(9)]


class Get(unittest.TestCase):
    def test_of_a_new_machine(self):
        self.assertEqual(got([]), NEW)

    def test_of_each_that_a_program_has_changed(self):
        words = [code("CA", 0o4020), code("TS", 1), code("CA", 0o4021), code("TS", 2), code("CA", 0o4022),
                 code("TS", 3), code("CA", 0o4023), code("TS", 4), code("CA", 0o4020), 4]
        calls = [load(2, 0, words), load(2, 0o20, [0o51234, 0o76543, 0o2400, 0o72000]), [RUN, 10], [ASK, 2], [ASK, 10]]
        self.assertEqual(got(calls), [0o151234, 0o51234, 0o176543, 5, 0o35, 0o4012, 1, 0, 0o2004])

    def test_a_and_q_with_16_bits(self):
        up = [load(2, 0, [code("CA", 0o4010), code("AD", 0), code("XCH", 2), code("CA", 2)]), load(2, 8, [0o37777])]
        self.assertEqual(got(up + [[RUN, 2]]), changed({A: 0o77776, Z: 0o4002}))
        self.assertEqual(got(up + [[RUN, 3]]), changed({Q: 0o77776, Z: 0o4003}))
        self.assertEqual(got(up + [[RUN, 4]]), changed({A: 0o77776, Q: 0o77776, Z: 0o4004}))
        down = up + [load(2, 8, [0o40000])]
        self.assertEqual(got(down + [[RUN, 2]]), changed({A: 0o100001, Z: 0o4002}))
        self.assertEqual(got(down + [[RUN, 4]]), changed({A: 0o100001, Q: 0o100001, Z: 0o4004}))

    def test_eb_fb_and_bb_tell_their_numbers(self):
        both = [load(2, 0, [code("CA", 0o4010), code("TS", 6)]), load(2, 8, [0o66005]), [RUN, 2]]
        self.assertEqual(got(both), changed({A: 0o166005, EB: 5, FB: 0o33, Z: 0o4002}))

    def test_tc_3_and_4(self):
        words = load(2, 0, [4, 4, 3, 3])
        for turns, barred in ((0, 0), (1, 1), (2, 1), (3, 0), (4, 0)):
            self.assertEqual(got([words, [RUN, turns]]), changed({Z: 0o4000 + turns, BARRED: barred}))

    def test_an_interrupt_from_ask_to_resume(self):
        calls = [load(2, 0, [code("TCF", 0o5000)]), load(2, 0o14, [code("CA", 5), RESUME]),
                 load(2, 512, [code("TCF", 0o5000)]), [RUN, 2], [ASK, 3], [ASK, 7]]
        self.assertEqual(got(calls), changed({Z: 0o5000, ASKED: 0o210}))
        self.assertEqual(got(calls + [[RUN, 1]]), changed({Z: 0o4014, SERVING: 1, ASKED: 0o200}))
        self.assertEqual(got(calls + [[RUN, 2]]), changed({A: 0o4015, Z: 0o4015, SERVING: 1, ASKED: 0o200}))
        self.assertEqual(got(calls + [[RUN, 3]]), changed({A: 0o4015, Z: 0o5000, ASKED: 0o200}))
        self.assertEqual(got(calls + [[RUN, 5]]), changed({A: 0o4015, Z: 0o4034, SERVING: 1}))

    def test_asked_for_by_ask(self):
        for k in range(11):
            self.assertEqual(got([[ASK, k]]), changed({ASKED: 1 << k}))
        self.assertEqual(got([[ASK, k] for k in range(11)]), changed({ASKED: 0o3777}))
        self.assertEqual(got([[ASK, 11], [ASK, -1]]), NEW)

    def test_asked_for_by_pulse(self):
        for k in range(20, 49):
            asked = {0o26: 8, 0o27: 16, 0o30: 4}.get(k, 0)
            self.assertEqual(got([[POKE, CHANGING, k, 0o37777], [PULSE, k, 0]]), changed({ASKED: asked}), k)
            self.assertEqual(got([[POKE, CHANGING, k, 0o37776], [PULSE, k, 0]]), NEW, k)
            self.assertEqual(got([[POKE, CHANGING, k, 0o40000], [PULSE, k, 1]]), NEW, k)

    def test_refusals(self):
        for k in NO_VALUES:
            self.assertEqual(answered([[GET, k]]), [-1])

    def test_whole_numbers_alone(self):
        calls = [[SET, k, MOST_NUMBER] for k in range(9)]
        for value in got([]) + got(calls):
            self.assertIs(type(value), int)


class Set(unittest.TestCase):
    FITTING = [0o123456, 0o54321, 0o65432, 5, 0o25, 0o6543, 1, 1, 0o2525]

    def test_each(self):
        for k, v in enumerate(self.FITTING):
            self.assertEqual(answered([[SET, k, v]]), [0])
            self.assertEqual(got([[SET, k, v]]), changed({k: v}))
        self.assertEqual(got([[SET, k, v] for k, v in enumerate(self.FITTING)]), self.FITTING)

    def test_the_most_that_fits(self):
        for k, v in enumerate(MOST_OF):
            self.assertEqual(got([[SET, k, v]]), changed({k: v}))

    def test_lower_bits_alone(self):
        for k, most in enumerate(MOST_OF):
            self.assertEqual(got([[SET, k, MOST_NUMBER]]), changed({k: most}))
            self.assertEqual(got([[SET, k, most + 1]]), changed({k: 0}))
            self.assertEqual(got([[SET, k, MOST_NUMBER - most]]), changed({k: 0}))
            self.assertEqual(got([[SET, k, most + 2]]), changed({k: 1}))
        self.assertEqual(got([[SET, k, MOST_NUMBER] for k in range(9)]), MOST_OF)

    def test_0(self):
        for k in range(9):
            self.assertEqual(got([[SET, k, 0]]), changed({k: 0}))
            filled = [[SET, other, MOST_NUMBER] for other in range(9)]
            self.assertEqual(got(filled + [[SET, k, 0]]), MOST_OF[:k] + [0] + MOST_OF[k + 1:])

    def test_it_sets_what_is_asked_for_and_asks_for_no_more(self):
        self.assertEqual(got([[ASK, 1], [ASK, 2], [SET, ASKED, 0o14]]), changed({ASKED: 0o14}))

    def test_refusals(self):
        filled = [[SET, k, v] for k, v in enumerate(self.FITTING)]
        for k in NO_VALUES:
            for v in (0, 1, MOST_NUMBER):
                self.assertEqual(answered([[SET, k, v]]), [-1])
                self.assertEqual(got(filled + [[SET, k, v]]), self.FITTING)


class RunBehindSet(unittest.TestCase):
    """A run goes by what was set."""

    def test_registers(self):
        add = [load(2, 0, [code("AD", 0)])]
        self.assertEqual(got(add + [[SET, A, 0o30000], [RUN, 1]]), changed({A: 0o60000, Z: 0o4001}))
        take = [load(2, 0, [code("LXCH", 0)])]
        self.assertEqual(got(take + [[SET, L, 0o50000], [RUN, 1]]), changed({A: 0o150000, Z: 0o4001}))
        back = [load(2, 0, [code("TC", 2)]), [SET, Q, 0o15432], [RUN, 2]]
        self.assertEqual(got(back), changed({Q: 0o15432, Z: 0o5432}))

    def test_z(self):
        calls = [load(3, 1023, [code("CA", 5)]), [SET, Z, 0o7777], [RUN, 1]]
        self.assertEqual(got(calls), changed({Z: 0}))
        calls = [load(2, 9, [code("CA", 5)]), [SET, Z, 0o4011], [RUN, 1]]
        self.assertEqual(got(calls), changed({A: 0o4012, Z: 0o4012}))

    def test_eb_moves_the_window(self):
        for eb in range(1, 8):
            calls = [load(2, 0, [code("CA", 0o1405)]), [POKE, CHANGING, 256 * eb + 5, 0o40000 + eb], [SET, EB, eb]]
            self.assertEqual(got(calls + [[RUN, 1]]), changed({A: 0o140000 + eb, EB: eb, Z: 0o4001}))

    def test_an_overflown_a(self):
        words = load(2, 0, [code("TS", 0o100), code("CA", 5), code("CA", 0o100)])
        calls = [words, [SET, A, 0o40005], [RUN, 2]]
        self.assertEqual(got(calls), changed({A: 5, Z: 0o4003}))

    def test_interrupts_that_are_set(self):
        for asked in range(1, 0o4000):
            first = min(k for k in range(11) if asked >> k & 1)
            after = changed({Z: 0o4000 + 4 * first, SERVING: 1, ASKED: asked - (1 << first)})
            self.assertEqual(got([[SET, Z, 0o5000], [SET, ASKED, asked], [RUN, 1]]), after, oct(asked))

    def test_interrupts_that_are_shut_off_or_held_up(self):
        going_on = [load(2, 0, [code("CA", 5)] * 3), [SET, ASKED, 2]]
        for k in (BARRED, SERVING):
            calls = going_on + [[SET, k, 1], [RUN, 2]]
            self.assertEqual(got(calls), changed({A: 0o4002, Z: 0o4002, ASKED: 2, k: 1}))
            calls = calls + [[SET, k, 0], [RUN, 1]]
            self.assertEqual(got(calls), changed({A: 0o4002, Z: 0o4004, SERVING: 1}))
        calls = going_on + [[SET, A, 0o40000], [RUN, 1]]
        self.assertEqual(got(calls), changed({A: 0o4001, Z: 0o4001, ASKED: 2}))

    def test_interrupts_that_are_taken_back(self):
        calls = [load(2, 0, [code("CA", 5)]), [ASK, 3], [SET, ASKED, 0], [RUN, 1]]
        self.assertEqual(got(calls), changed({A: 0o4001, Z: 0o4001}))

    def test_resume_ends_what_is_set_to_be_served(self):
        calls = [load(2, 0, [RESUME]), [POKE, CHANGING, 0o15, 0o5000], [SET, SERVING, 1], [RUN, 1]]
        self.assertEqual(got(calls), changed({Z: 0o5000}))


class LookAndPoke(unittest.TestCase):
    def test_of_a_new_machine_all_is_0(self):
        for kind, first, last in EDGES:
            numbers = list(range(first, last + 1, 1 + last // 250)) + [last]
            self.assertEqual(answered([[LOOK, kind, k] for k in numbers]), [0] * len(numbers))

    def test_first_and_last(self):
        for kind, first, last in EDGES:
            for k in (first, first + 3, last - 1, last):
                self.assertEqual(answered([[POKE, kind, k, 0o52525], [LOOK, kind, k]]), [0, 0o52525], (kind, k))

    def test_the_words_beside_stay(self):
        for kind, first, last in EDGES:
            for k in (first + 20, last - 20):
                around = list(range(k - 8, k + 9))
                calls = [[POKE, kind, k, 0o52525]] + [[LOOK, kind, other] for other in around]
                self.assertEqual(answered(calls)[1:], [0] * 8 + [0o52525] + [0] * 8)

    def test_the_kinds_have_words_of_their_own(self):
        kinds = (STAYING, CHANGING, CHANNEL)
        calls = [[POKE, kind, 300, 0o70 + kind] for kind in kinds] + [[LOOK, kind, 300] for kind in kinds]
        self.assertEqual(answered(calls)[3:], [0o70, 0o71, 0o72])

    def test_lower_15_bits(self):
        for kind, first, last in EDGES:
            for k in (first, last):
                for v in (0, 1, 0o77777, 0o100000, 0o100001, 0o177777, MOST_NUMBER, MOST_NUMBER - 0o77777):
                    calls = [[POKE, kind, k, 5], [POKE, kind, k, v], [LOOK, kind, k]]
                    self.assertEqual(answered(calls), [0, 0, v & 0o77777])

    def test_no_editing(self):
        for k in (0o20, 0o21, 0o22, 0o23):
            for v in (0o12345, 0o77777, 0o40001, 1):
                calls = [[POKE, CHANGING, k, v], [LOOK, CHANGING, k], [LOOK, CHANGING, k]]
                self.assertEqual(answered(calls), [0, v, v])

    def test_an_instruction_edits_what_was_poked(self):
        calls = [load(2, 0, [code("CA", 0o22)]), [POKE, CHANGING, 0o22, 0o40001], [RUN, 1], [LOOK, CHANGING, 0o22]]
        self.assertEqual(answered(calls)[3:], [3])
        self.assertEqual(got(calls), changed({A: 0o140001, Z: 0o4001}))

    def test_it_sets_nothing_else(self):
        for kind, first, last in EDGES:
            for k in (first, first + 10, last):
                self.assertEqual(got([[POKE, kind, k, MOST_NUMBER], [LOOK, kind, k]]), NEW)

    def test_no_such_word(self):
        for kind, k in NO_WORDS:
            self.assertEqual(answered([[LOOK, kind, k]]), [-1], (kind, k))
            for v in (0, 1, MOST_NUMBER):
                self.assertEqual(answered([[POKE, kind, k, v]]), [-1], (kind, k))


class Words(unittest.TestCase):
    """Words and channels by look and poke, and by the calls and instructions beside them."""

    def test_load_and_look(self):
        calls = [load(0, 0, [0o111]), load(39, 1023, [0o122222]), load(5, 7, [3, 4]), [LOOK, STAYING, 0],
                 [LOOK, STAYING, 40959], [LOOK, STAYING, 5126], [LOOK, STAYING, 5127], [LOOK, STAYING, 5128]]
        self.assertEqual(answered(calls)[3:], [0o111, 0o22222, 0, 3, 4])

    def test_a_counter(self):
        calls = [[POKE, CHANGING, 20, 5], [PULSE, 20, 0], [LOOK, CHANGING, 20], [PULSE, 20, 1], [LOOK, CHANGING, 20]]
        self.assertEqual(answered(calls), [0, 0, 6, 0, 5])
        calls = [[POKE, CHANGING, 0o25, 0o37777], [PULSE, 0o25, 0], [LOOK, CHANGING, 0o25], [LOOK, CHANGING, 0o24]]
        self.assertEqual(answered(calls), [0, 0, 0, 1])

    def test_channel_1_is_l(self):
        self.assertEqual(answered([[SET, L, 0o51234], [LOOK, CHANNEL, 1]]), [0, 0o51234])
        self.assertEqual(got([[POKE, CHANNEL, 1, 0o151234]]), changed({L: 0o51234}))

    def test_channel_2_is_q(self):
        for q, seen in ((0o151234, 0o51234), (0o45, 0o45), (0o40045, 0o45), (0o137777, 0o77777), (0o100000, 0o40000)):
            self.assertEqual(answered([[SET, Q, q], [LOOK, CHANNEL, 2], [GET, Q]]), [0, seen, q])
        rows = ((0o51234, 0o151234), (0o45, 0o45), (0o137777, 0o37777), (MOST_NUMBER, 0o177777), (0o40000, 0o140000))
        for v, q in rows:
            self.assertEqual(got([[SET, Q, 0o60606], [POKE, CHANNEL, 2, v]]), changed({Q: q}))

    def test_channels_by_instructions(self):
        for channel in (0, 1, 2, 3, 7, 0o777):
            words = [EXTEND, code("READ", channel), EXTEND, code("WRITE", 0o100)]
            calls = [load(2, 0, words), [POKE, CHANNEL, channel, 0o54321], [RUN, 4], [GET, A], [LOOK, CHANNEL, 0o100]]
            self.assertEqual(answered(calls)[3:], [0o154321, 0o54321])
            words = [EXTEND, code("WRITE", channel)]
            calls = [load(2, 0, words), [SET, A, 0o100123], [RUN, 2], [LOOK, CHANNEL, channel]]
            self.assertEqual(answered(calls)[3:], [0o40123])

    def test_changing_words_by_instructions(self):
        for number, place, eb in ((8, 0o10, 0), (0o1377, 0o1377, 5), (0o1377, 0o1777, 2), (2047, 0o1777, 7),
                                  (1024, 0o1400, 4), (256, 0o1400, 1), (256, 0o400, 0), (0o20, 0o1420, 0)):
            calls = [load(2, 0, [code("MASK", place)]), [SET, EB, eb], [SET, A, MOST_NUMBER]]
            calls = calls + [[POKE, CHANGING, number, 0o54321], [RUN, 1], [GET, A]]
            self.assertEqual(answered(calls)[-1], 0o154321, (number, oct(place)))
            calls = [load(2, 0, [code("LXCH", place)]), [SET, EB, eb], [SET, L, 0o52525], [RUN, 1]]
            kept = 0o65252 if number == 0o20 else 0o52525
            self.assertEqual(answered(calls + [[LOOK, CHANGING, number]])[-1], kept, (number, oct(place)))

    def test_staying_words_by_fb_and_channel_7(self):
        for fb in range(32):
            for bit, bank in ((0, fb), (0o100, fb + 8 if fb >= 0o30 else fb), (0o77677, fb)):
                for at in (0, 1023):
                    calls = [[POKE, CHANGING, 0o100, code("CA", 0o2000 + at)], [SET, Z, 0o100], [SET, FB, fb],
                             [POKE, CHANNEL, 7, bit], [POKE, STAYING, 1024 * bank + at, 0o54321], [RUN, 1]]
                    self.assertEqual(got(calls), changed({A: 0o154321, FB: fb, Z: 0o101}), (fb, bit, at))

    def test_staying_words_of_banks_2_and_3(self):
        for place in (0o4000, 0o5777, 0o6000, 0o7777):
            calls = [[POKE, CHANGING, 0o100, code("CA", place)], [SET, Z, 0o100], [SET, FB, 9],
                     [POKE, STAYING, place, 0o54321], [RUN, 1]]
            self.assertEqual(got(calls), changed({A: 0o154321, FB: 9, Z: 0o101}))

    def test_an_instruction_that_is_poked(self):
        calls = [[POKE, STAYING, 2048, code("CA", 5)], [RUN, 1]]
        self.assertEqual(got(calls), changed({A: 0o4001, Z: 0o4001}))


class Refusals(unittest.TestCase):
    """Behind a refused call all is as it was."""

    FILLED = ([[SET, k, 0o1234567 + 0o111 * k] for k in range(9)] + [load(39, 1020, [1, 2, 3, 4]), load(0, 0, [5, 6])]
              + [[POKE, CHANGING, k, 0o4000 + k] for k in (8, 9, 20, 48, 2046, 2047)]
              + [[POKE, CHANNEL, k, 0o5000 + k] for k in (0, 3, 7, 8, 510, 511)])
    SEEN = (GET_ALL + [[LOOK, STAYING, k] for k in (0, 1, 2, 7, 8, 512, 2048, 39935, 39936, 40956, 40957, 40958, 40959)]
            + [[LOOK, CHANGING, k] for k in (8, 9, 10, 19, 20, 48, 49, 256, 512, 2046, 2047)]
            + [[LOOK, CHANNEL, k] for k in (0, 1, 2, 3, 4, 7, 8, 9, 510, 511)])
    REFUSED = ([load(40, 0, [9]), load(39, 1023, [9, 9]), load(0, 0, [], n=1025), load(MOST_NUMBER, 0, [])]
               + [[RUN, n] for n in (-1, 10000001, LEAST_INT, MOST_INT)]
               + [[ASK, k] for k in (-1, 11, LEAST_INT, MOST_INT)]
               + [[PULSE, k, down] for k, down in ((19, 0), (49, 1), (20, 2), (48, -1), (LEAST_INT, 0), (MOST_INT, 0))]
               + [[GET, k] for k in NO_VALUES]
               + [[SET, k, v] for k in NO_VALUES for v in (0, 0o1357, MOST_NUMBER)]
               + [[LOOK, kind, k] for kind, k in NO_WORDS]
               + [[POKE, kind, k, v] for kind, k in NO_WORDS for v in (0, MOST_NUMBER)])

    def test_one_by_one(self):
        before = answered(self.FILLED + self.SEEN)
        for call in self.REFUSED:
            behind = answered(self.FILLED + [call] + self.SEEN)
            self.assertEqual(behind.pop(len(self.FILLED)), -1, call)
            self.assertEqual(behind, before, call)

    def test_all_together(self):
        before = answered(self.FILLED + self.SEEN)[len(self.FILLED):]
        behind = answered(self.FILLED + self.SEEN + self.REFUSED + self.SEEN)[len(self.FILLED):]
        self.assertEqual(behind, before + [-1] * len(self.REFUSED) + before)

    def test_between_turns(self):
        # An INDEX behind an EXTEND, and a RESUME, go on as if nothing had been refused.
        words = [EXTEND, code("XINDEX", 0o100), code("SU", 0o100), RESUME]
        calls = [load(2, 0, words), [POKE, CHANGING, 0o100, 1], [POKE, CHANGING, 0o101, 7],
                 [POKE, CHANGING, 0o15, 0o4005], [POKE, CHANGING, 0o17, code("CA", 5)]]
        by_one = list(calls)
        for turn in range(5):
            by_one = by_one + [[RUN, 1], [RUN, -1], [ASK, 11], [SET, 9, 5], [POKE, CHANGING, 7, 5], [GET, -1]]
        self.assertEqual(got(by_one), got(calls + [[RUN, 5]]))
        self.assertEqual(got(by_one), changed({A: 0o4006, Z: 0o4006}))


if __name__ == "__main__":
    unittest.main()
