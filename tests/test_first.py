"""The instructions of the first list, by all that each leaves."""

from rig import MachineCase, code

ZERO = 0
MINUS_ZERO = 0o177777
MOST = 0o37777
LEAST = 0o140000
UP = 0o40000
DOWN = 0o137777


class Jumps(MachineCase):
    def test_tc_keeps_the_way_back(self):
        self.does("TC", 0o1234, {}, {"q": 0o4001, "z": 0o1234})
        self.does("TC", 0o7777, {"q": 0o123456}, {"q": 0o4001, "z": 0o7777})
        for k in (0, 1, 5, 7, 0o4000, 0o4001):
            self.does("TC", k, {}, {"q": 0o4001, "z": k})

    def test_tc_2_leaves_q(self):
        self.does("TC", 2, {"q": 0o5000}, {"z": 2})

    def test_tc_2_goes_back_by_q(self):
        back = {"staying": {0o5000: code("TC", 2)}}
        self.ran([code("TC", 0o5000)], back, {"q": 2 + 1, "z": 0o4001}, turns=3)

    def test_tc_3_and_4(self):
        self.does("TC", 3, {"barred": True}, {"barred": False})
        self.does("TC", 3, {}, {})
        self.does("TC", 4, {}, {"barred": True})
        self.does("TC", 4, {"barred": True}, {})

    def test_extend_is_for_the_next_alone(self):
        self.does("TC", 6, {}, {"extended": True})
        self.ran([0o00006, code("SU", 0o100), code("AD", 0o100)], {"changing": {0o100: 5}}, {"a": MINUS_ZERO})

    def test_tcf(self):
        for k in (0o2000, 0o4000, 0o5432, 0o7777):
            self.does("TCF", k, {"q": 7}, {"z": k})

    def test_z_has_12_bits(self):
        self.ran([], {"z": 0o7777, "staying": {0o7777: code("CA", 5)}}, {"z": 0, "a": 0}, turns=1)
        self.ran([], {"z": 0o7777, "staying": {0o7777: code("TC", 0o100)}}, {"z": 0o100, "q": 0}, turns=1)

    def test_instructions_stand_in_registers_too(self):
        self.ran([], {"z": 0, "a": code("TCF", 0o4000)}, {"z": 0o4000}, turns=1)
        self.ran([], {"z": 1, "l": code("CA", 0)}, {"z": 2}, turns=1)
        self.ran([], {"z": 7}, {"z": 0, "q": 0o10}, turns=1)


class Ccs(MachineCase):
    def test_four_ways(self):
        rows = (
            (5, 4, 1), (1, 0, 1), (0o37777, 0o37776, 1), (0, 0, 2),
            (0o77772, 4, 3), (0o77776, 0, 3), (0o40000, 0o37776, 3), (0o77777, 0, 4),
        )
        for word, a, on in rows:
            self.does("CCS", 0o100, {"a": 0o123, "changing": {0o100: word}}, {"a": a, "z": 0o4000 + on})

    def test_of_wide_words(self):
        rows = ((UP, MOST, 1), (0o40001, UP, 1), (0o77777, 0o77776, 1), (MINUS_ZERO, 0, 4), (0, 0, 2),
                (DOWN, MOST, 3), (0o100000, 0o77776, 3))
        for word, a, on in rows:
            self.does("CCS", 0, {"a": word}, {"a": a, "z": 0o4000 + on})
            self.does("CCS", 2, {"q": word}, {"a": a, "z": 0o4000 + on})

    def test_z_has_12_bits(self):
        before = {"z": 0o7776, "staying": {0o7776: code("CCS", 0o100)}, "changing": {0o100: 0o77777}}
        self.ran([], before, {"z": 2}, turns=1)


class Pairs(MachineCase):
    def das(self, a, l, high, low, after):
        new_a, new_high, new_low = after
        self.does("DAS", 0o101, {"a": a, "l": l, "changing": {0o100: high, 0o101: low}},
                  {"a": new_a, "l": 0, "changing": {0o100: new_high, 0o101: new_low}})

    def test_das(self):
        self.das(1, 2, 0o10, 0o20, (0, 0o11, 0o22))
        self.das(0, 0o37777, 0, 1, (0, 1, 0))
        self.das(0, 0o40000, 0, 0o77776, (0, 0o77776, 0o77777))
        self.das(1, 0o40000, 5, 0o77776, (0, 5, 0o77777))
        self.das(1, 0, 0o37777, 0, (1, 0, 0))
        self.das(0, 1, 0o37777, 0o37777, (1, 0, 0))
        self.das(0o177776, 0, 0o40000, 0, (0o177776, 0o77777, 0))
        self.das(0, 0, 0, 0, (0, 0, 0))
        self.das(MINUS_ZERO, 0o77777, 0o77777, 0o77777, (0, 0o77777, 0o77777))
        self.das(5, 5, 0o77772, 0o77772, (0, 0o77777, 0o77777))

    def test_das_takes_the_wide_a(self):
        self.das(UP, 0, 0, 0, (1, 0, 0))
        self.das(UP, 0, 0o77776, 0, (0, 0o37777, 0))

    def test_das_of_a_and_l_doubles(self):
        self.does("DAS", 1, {"a": 3, "l": 5}, {"a": 6, "l": 0o12})
        self.does("DAS", 1, {"a": MOST, "l": MOST}, {"a": 0o77777, "l": 0o37776})
        self.does("DAS", 1, {"a": DOWN, "l": 0}, {"a": 0o077777})

    def test_das_of_l_and_q(self):
        self.does("DAS", 2, {"a": 3, "l": 5, "q": 0o40007}, {"a": 0, "l": 0o10, "q": 0o14})

    def test_das_at_the_edge_of_j(self):
        # j is 01777, by the window; j + 1 is 0.
        self.does("DAS", 0, {"a": 3, "l": 5, "eb": 2, "changing": {0o1377: 0o70}},
                  {"a": 0o10, "l": 0, "changing": {0o1377: 0o73}})
        self.does("DAS", 0o1777, {"a": 3, "l": 5, "eb": 7, "changing": {2046: 1, 2047: 2}},
                  {"a": 0, "l": 0, "changing": {2046: 4, 2047: 7}})

    def test_das_across_the_windows_edge(self):
        self.does("DAS", 0o1400, {"a": 3, "l": 5, "eb": 7, "changing": {0o1377: 1, 0o3400: 2}},
                  {"a": 0, "l": 0, "changing": {0o1377: 4, 0o3400: 7}})

    def test_das_sets_in_the_order_told(self):
        # EB is set first, so the window has moved for the upper word.
        self.does("DAS", 0o1403, {"l": 0o1000, "a": 5, "q": 6}, {"a": 0, "l": 0, "eb": 2, "changing": {0o1002: 0o13}})

    def test_dxch(self):
        self.does("DXCH", 0o101, {"a": 1, "l": 2, "changing": {0o100: 0o54321, 0o101: 0o43210}},
                  {"a": 0o154321, "l": 0o43210, "changing": {0o100: 1, 0o101: 2}})
        self.does("DXCH", 0o101, {"a": UP + 3, "l": 0o50000}, {"a": 0, "l": 0, "changing": {0o100: 3, 0o101: 0o50000}})

    def test_dxch_of_registers(self):
        self.does("DXCH", 1, {"a": UP, "l": 2}, {})
        self.does("DXCH", 2, {"a": UP + 3, "l": 0o50000, "q": DOWN}, {"a": 0o150000, "l": 3, "q": 0o150000})
        self.does("DXCH", 3, {"a": UP + 3, "l": 0o1000, "q": DOWN, "eb": 5},
                  {"a": DOWN, "l": 0o2400, "q": UP + 3, "eb": 2})
        self.does("DXCH", 5, {"a": 0o6000, "l": 0o5432, "fb": 0o21}, {"a": 0o142000, "l": 0o4001, "fb": 3, "z": 0o5432})
        self.does("DXCH", 6, {"a": 0o5432, "l": 0o6007, "fb": 1, "eb": 2},
                  {"a": 0o4001, "l": 0o2002, "z": 0o5432, "fb": 3, "eb": 7})

    def test_dxch_at_the_edge_of_j(self):
        self.does("DXCH", 0, {"a": 3, "l": 0o50005, "eb": 2, "changing": {0o1377: 0o70}},
                  {"a": 0o150005, "l": 3, "changing": {0o1377: 3}})
        self.does("DXCH", 0o1777, {"a": 3, "l": 5, "eb": 7, "changing": {2046: 1, 2047: 2}},
                  {"a": 1, "l": 2, "changing": {2046: 3, 2047: 5}})

    def test_dxch_sets_in_the_order_told(self):
        # EB is set by the old A, so the window has moved for the old L.
        self.does("DXCH", 0o1404, {"a": 0o400, "l": 0o77, "fb": 3},
                  {"a": 0, "l": 0o6000, "eb": 1, "changing": {0o404: 0o77}})


class Exchanges(MachineCase):
    def test_lxch(self):
        self.does("LXCH", 0o100, {"l": 0o50000, "changing": {0o100: 3}}, {"l": 3, "changing": {0o100: 0o50000}})
        self.does("LXCH", 0, {"a": UP + 5, "l": 0o50000}, {"a": 0o150000, "l": 5})
        self.does("LXCH", 1, {"l": 0o50000}, {})
        self.does("LXCH", 2, {"q": DOWN, "l": 0o50000}, {"q": 0o150000, "l": 0o77777})
        self.does("LXCH", 3, {"l": 0o1400, "eb": 1}, {"l": 0o400, "eb": 3})
        self.does("LXCH", 5, {"l": 0o5432}, {"l": 0o4001, "z": 0o5432})

    def test_xch(self):
        self.does("XCH", 0o100, {"a": UP + 5, "changing": {0o100: 0o50000}}, {"a": 0o150000, "changing": {0o100: 5}})
        self.does("XCH", 0, {"a": UP}, {})
        self.does("XCH", 1, {"a": DOWN, "l": 0o50000}, {"a": 0o150000, "l": 0o77777})
        self.does("XCH", 2, {"a": UP, "q": DOWN}, {"a": DOWN, "q": UP})
        self.does("XCH", 4, {"a": 0o6000, "fb": 0o37}, {"a": 0o176000, "fb": 3})
        self.does("XCH", 5, {"a": 0o5432}, {"a": 0o4001, "z": 0o5432})
        self.does("XCH", 6, {"a": 0o6003, "fb": 0o37, "eb": 1}, {"a": 0o176001, "fb": 3, "eb": 3})

    def test_window(self):
        self.does("XCH", 0o1400, {"a": 5, "eb": 3, "changing": {0o1400: 7}}, {"a": 7, "changing": {0o1400: 5}})
        self.does("XCH", 0o1401, {"a": 5, "l": 7}, {"a": 7, "l": 5})


class Sums(MachineCase):
    def test_incr(self):
        rows = ((0, 1), (5, 6), (0o77777, 1), (0o77776, 0o77777), (0o37777, 0), (0o40000, 0o40001))
        for word, more in rows:
            self.does("INCR", 0o100, {"a": 9, "changing": {0o100: word}}, {"changing": {0o100: more}})

    def test_incr_of_registers(self):
        self.does("INCR", 0, {"a": MOST}, {"a": UP})
        self.does("INCR", 2, {"q": MOST}, {"q": UP})
        self.does("INCR", 1, {"l": 0o37777}, {"l": 0})
        self.does("INCR", 5, {}, {"z": 0o4002})

    def test_incr_asks_for_no_interrupt(self):
        self.does("INCR", 0o26, {"changing": {0o26: 0o37777}}, {"changing": {0o26: 0}})
        self.does("INCR", 0o25, {"changing": {0o25: 0o37777}}, {"changing": {0o25: 0}})

    def test_ads(self):
        self.does("ADS", 0o100, {"a": 3, "changing": {0o100: 5}}, {"a": 8, "changing": {0o100: 8}})
        self.does("ADS", 0o100, {"a": 1, "changing": {0o100: 0o37777}}, {"a": UP, "changing": {0o100: 0}})
        self.does("ADS", 0o100, {"a": 0o177776, "changing": {0o100: 0o40000}}, {"a": DOWN, "changing": {0o100: 0o77777}})
        self.does("ADS", 0o100, {"a": 5, "changing": {0o100: 0o77772}}, {"a": MINUS_ZERO, "changing": {0o100: 0o77777}})
        self.does("ADS", 0, {"a": 0o30000}, {"a": 0o60000})
        self.does("ADS", 2, {"a": 1, "q": MOST}, {"a": UP, "q": UP})

    def test_ad(self):
        rows = ((3, 5, 8), (0, 0, 0), (0, 0o77777, MINUS_ZERO), (MINUS_ZERO, 0, MINUS_ZERO),
                (MINUS_ZERO, 0o77777, MINUS_ZERO), (5, 0o77772, MINUS_ZERO), (1, 0o37777, UP),
                (0o177776, 0o40000, DOWN), (UP, 0o77776, MOST), (DOWN, 1, LEAST))
        for a, word, total in rows:
            self.does("AD", 0o100, {"a": a, "changing": {0o100: word}}, {"a": total})
        self.does("AD", 0, {"a": 0o30000}, {"a": 0o60000})
        self.does("AD", 2, {"a": 1, "q": UP}, {"a": UP + 1})
        self.does("AD", 0o7777, {"a": 1, "staying": {0o7777: 0o1111}}, {"a": 0o1112})

    def test_ca(self):
        self.does("CA", 0o100, {"a": 9, "changing": {0o100: 0o51234}}, {"a": 0o151234})
        self.does("CA", 0, {"a": UP}, {})
        self.does("CA", 1, {"l": 0o51234}, {"a": 0o151234})
        self.does("CA", 2, {"q": DOWN}, {"a": DOWN})
        self.does("CA", 5, {}, {"a": 0o4001})
        self.does("CA", 0o6000, {"staying": {3072: 0o44444}}, {"a": 0o144444})

    def test_cs(self):
        self.does("CS", 0o100, {"a": 9, "changing": {0o100: 0o51234}}, {"a": 0o026543})
        self.does("CS", 0, {"a": UP}, {"a": DOWN})
        self.does("CS", 0o100, {}, {"a": MINUS_ZERO})
        self.does("CS", 0o100, {"changing": {0o100: 0o77777}}, {"a": ZERO})
        self.does("CS", 0o7777, {"staying": {0o7777: 1}}, {"a": 0o177776})

    def test_mask(self):
        self.does("MASK", 0o100, {"a": 0o153535, "changing": {0o100: 0o63333}}, {"a": 0o143131})
        self.does("MASK", 0o100, {"a": 0o077777, "changing": {0o100: 0o77777}}, {"a": 0o37777})
        self.does("MASK", 0o100, {"a": 0o100000, "changing": {0o100: 0o77777}}, {"a": 0o140000})
        self.does("MASK", 2, {"a": MINUS_ZERO, "q": DOWN}, {"a": MINUS_ZERO})
        self.does("MASK", 2, {"a": MINUS_ZERO, "q": UP + 1}, {"a": 1})
        self.does("MASK", 0o4321, {"a": 0o7777, "staying": {0o4321: 0o12345}}, {"a": 0o2345})


class Ts(MachineCase):
    def test_without_overflow(self):
        for a, word in ((5, 5), (0, 0), (MINUS_ZERO, 0o77777), (MOST, 0o37777), (LEAST, 0o40000)):
            self.does("TS", 0o100, {"a": a, "changing": {0o100: 9}}, {"changing": {0o100: word}})
        self.does("TS", 2, {"a": LEAST}, {"q": LEAST})

    def test_with_overflow(self):
        self.does("TS", 0o100, {"a": UP + 5}, {"a": 1, "z": 0o4002, "changing": {0o100: 5}})
        self.does("TS", 0o100, {"a": DOWN - 5}, {"a": 0o177776, "z": 0o4002, "changing": {0o100: 0o77772}})

    def test_with_overflow_q_takes_it_put_narrow(self):
        self.does("TS", 2, {"a": UP + 5}, {"a": 1, "z": 0o4002, "q": 5})
        self.does("TS", 2, {"a": DOWN}, {"a": 0o177776, "z": 0o4002, "q": MINUS_ZERO})

    def test_0(self):
        for a in (0, 5, MINUS_ZERO, MOST, LEAST):
            self.does("TS", 0, {"a": a}, {})
        for a in (UP, UP + 5, DOWN, 0o100000):
            self.does("TS", 0, {"a": a}, {"z": 0o4002})

    def test_5(self):
        self.does("TS", 5, {"a": 0o5432}, {"z": 0o5432})
        self.does("TS", 5, {"a": 0o175432}, {"z": 0o5432})
        self.does("TS", 5, {"a": UP + 0o5432}, {"a": 1, "z": 0o5432})
        self.does("TS", 5, {"a": 0o125432}, {"a": 0o177776, "z": 0o5432})

    def test_the_window_is_neither_0_nor_5(self):
        self.does("TS", 0o1400, {"a": UP + 5}, {"a": 1, "z": 0o4002})
        self.does("TS", 0o1405, {"a": UP + 0o5432}, {"a": 1, "z": 0o5433})
        self.does("TS", 0o1405, {"a": 0o5432}, {"z": 0o5432})

    def test_z_has_12_bits(self):
        self.ran([], {"z": 0o7776, "a": UP, "staying": {0o7776: code("TS", 0o100)}}, {"a": 1, "z": 0}, turns=1)


class Index(MachineCase):
    def test_is_added_to_the_next(self):
        self.does("INDEX", 0o100, {"changing": {0o100: 3}}, {"index_word": 3})
        words = [code("INDEX", 0o100), code("CA", 0o200), code("AD", 0o200)]
        changing = {0o100: 3, 0o200: 7, 0o203: 0o1000}
        self.ran(words, {"changing": changing}, {"a": 0o1007})

    def test_of_below_0(self):
        words = [code("INDEX", 0o100), code("CA", 0o200)]
        self.ran(words, {"changing": {0o100: 0o77775, 0o176: 5}}, {"a": 5})

    def test_of_zeros(self):
        words = [code("INDEX", 0o100), code("CA", 0o200)]
        self.ran(words, {"changing": {0o200: 5}}, {"a": 5})
        self.ran(words, {"changing": {0o100: 0o77777, 0o200: 5}}, {"a": 5})
        # TC 0 and -0 give the word -0, which is MASK 07777.
        self.ran([code("INDEX", 0o100), 0], {"a": 0o7070, "changing": {0o100: 0o77777}, "staying": {0o7777: 0o70}},
                 {"a": 0o70})

    def test_the_sum_is_put_narrow(self):
        # 037777 and 1 overflow: the word is 0, TC 0.
        self.ran([code("INDEX", 0o100), 0o37777], {"changing": {0o100: 1}}, {"q": 0o4002, "z": 0})
        # 040000 and -1 overflow down: the word is 077777, MASK 07777.
        self.ran([code("INDEX", 0o100), 0o40000], {"a": 5, "changing": {0o100: 0o77776}, "staying": {0o7777: 4}},
                 {"a": 4})

    def test_changes_the_operation(self):
        # 010200 and 020000 are CA 0200; 070200 and -010000 are AD 0200.
        self.ran([code("INDEX", 0o100), code("CCS", 0o200)], {"changing": {0o100: 0o20000, 0o200: 5}}, {"a": 5})
        self.ran([code("INDEX", 0o100), code("MASK", 0o200)], {"a": 1, "changing": {0o100: 0o67777, 0o200: 5}},
                 {"a": 6})

    def test_of_a_wide_word(self):
        self.does("INDEX", 0, {"a": UP + 5}, {"index_word": 5})
        self.does("INDEX", 2, {"q": DOWN}, {"index_word": 0o77777})

    def test_twice(self):
        words = [code("INDEX", 0o100), code("INDEX", 0o200), code("CA", 0o300)]
        self.ran(words, {"changing": {0o100: 1, 0o200: 0o10, 0o201: 0o20, 0o320: 5}}, {"a": 5})

    def test_extend_may_come_by_it(self):
        words = [code("INDEX", 0o100), code("TC", 5), code("SU", 0o200)]
        self.ran(words, {"changing": {0o100: 1, 0o200: 5}}, {"a": 0o177772})

    def test_resume(self):
        before = {"serving": True, "changing": {0o15: 0o5000, 0o17: code("CA", 0o100), 0o100: 5},
                  "staying": {0o5000: code("CS", 0o100)}}
        self.does("INDEX", 0o17, before, {"z": 0o5000, "instead": code("CA", 0o100), "serving": False})
        self.ran([code("INDEX", 0o17)], before, {"z": 0o5001, "a": 5, "serving": False}, turns=2)

    def test_resume_puts_12_bits_into_z(self):
        self.does("INDEX", 0o17, {"changing": {0o15: 0o75432}}, {"z": 0o5432, "instead": 0})

    def test_resume_by_an_index(self):
        words = [code("INDEX", 0o100), code("INDEX", 0o16)]
        before = {"changing": {0o100: 1, 0o15: 0o5000, 0o17: 5}}
        self.ran(words, before, {"z": 0o5000, "instead": 5})
