"""The instructions of the second list, by all that each leaves."""

from fifteenbits.turns import run
from fifteenbits.words import number_of
from rig import EXTEND, MachineCase, code, made

MINUS_ZERO = 0o177777
MOST = 0o37777
LEAST = 0o140000
UP = 0o40000
DOWN = 0o137777


class ByChannel(MachineCase):
    def test_each(self):
        before = {"a": 0o153535, "channels": {0o34: 0o63333}}
        self.does("READ", 0o34, before, {"a": 0o163333})
        self.does("WRITE", 0o34, before, {"channels": {0o34: 0o53535}})
        self.does("RAND", 0o34, before, {"a": 0o143131})
        self.does("WAND", 0o34, before, {"a": 0o143131, "channels": {0o34: 0o43131}})
        self.does("ROR", 0o34, before, {"a": 0o173737})
        self.does("WOR", 0o34, before, {"a": 0o173737, "channels": {0o34: 0o73737}})
        self.does("RXOR", 0o34, before, {"a": 0o30606})
        self.does("EDRUPT", 0o34, before, {})

    def test_a_is_put_narrow(self):
        before = {"a": UP + 5, "channels": {0o34: 0o70003}}
        self.does("WRITE", 0o34, before, {"channels": {0o34: 5}})
        self.does("RAND", 0o34, before, {"a": 1})
        self.does("ROR", 0o34, before, {"a": 0o170007})
        self.does("RXOR", 0o34, before, {"a": 0o170006})
        self.does("WRITE", 0o34, {"a": 0o100000}, {"channels": {0o34: 0o40000}})
        self.does("ROR", 0o34, {"a": UP + 5, "channels": {0o34: 3}}, {"a": 7})
        self.does("WOR", 0o34, {"a": UP + 5, "channels": {0o34: 3}}, {"a": 7, "channels": {0o34: 7}})
        self.does("WAND", 0o34, {"a": UP + 5, "channels": {0o34: 0o77777}}, {"a": 5, "channels": {0o34: 5}})
        self.does("RXOR", 0o34, {"a": UP + 5, "channels": {0o34: 3}}, {"a": 6})

    def test_channel_numbers_have_nine_bits(self):
        self.does("READ", 0o777, {"channels": {0o777: 5}}, {"a": 5})
        self.does("READ", 0, {"channels": {0: 5}}, {"a": 5})
        self.does("WRITE", 0o777, {"a": 5}, {"channels": {0o777: 5}})

    def test_channel_1_is_l(self):
        before = {"a": 0o6, "l": 0o70003}
        self.does("READ", 1, before, {"a": 0o170003})
        self.does("WRITE", 1, before, {"l": 6})
        self.does("WAND", 1, before, {"a": 2, "l": 2})
        self.does("WOR", 1, before, {"a": 0o170007, "l": 0o70007})
        self.does("RXOR", 1, before, {"a": 0o170005})

    def test_channel_2_is_q(self):
        before = {"a": 0o6, "q": UP + 3}
        self.does("READ", 2, before, {"a": 3})
        self.does("WRITE", 2, before, {"q": 6})
        self.does("WRITE", 2, {"a": 0o140001}, {"q": 0o140001})
        self.does("WRITE", 2, {"a": DOWN}, {"q": MINUS_ZERO})
        self.does("WAND", 2, before, {"a": 2, "q": 2})
        self.does("WOR", 2, before, {"a": 7, "q": 7})
        self.does("WOR", 2, {"a": 5, "q": DOWN}, {"a": MINUS_ZERO, "q": MINUS_ZERO})

    def test_channel_7_moves_the_banks(self):
        before = {"a": 0o100, "fb": 0o30, "staying": {24 * 1024: 0o111, 32 * 1024: 0o222}}
        words = [EXTEND, code("WRITE", 7), code("CA", 0o2000)]
        self.ran(words, before, {"a": 0o222, "channels": {7: 0o100}})
        before["a"] = 0o77677
        self.ran(words, before, {"a": 0o111, "channels": {7: 0o37677}})


class Dv(MachineCase):
    def dv(self, a, l, word, after):
        new_a, new_l = after
        self.does("DV", 0o100, {"a": a, "l": l, "changing": {0o100: word}}, {"a": new_a, "l": new_l})

    def test_all_signs(self):
        # 5 * 16384 + 7 is 81927, ten times 8192 and 7.
        self.dv(5, 7, 0o20001, (0o11, 81927 - 9 * 8193))
        self.dv(5, 7, 0o20000, (0o12, 7))
        self.dv(5, 7, 0o57777, (0o177765, 7))
        self.dv(0o177772, 0o77770, 0o20000, (0o177765, 0o77770))
        self.dv(0o177772, 0o77770, 0o57777, (0o12, 0o77770))

    def test_parts_of_differing_signs(self):
        self.dv(5, 0o77770, 0o20000, (0o11, 81913 - 9 * 8192))
        self.dv(0o177772, 7, 0o20000, (0o177766, 0o77777 - (81913 - 9 * 8192)))
        self.dv(0, 0o77770, 2, (0o177774, 0o77776))
        self.dv(MINUS_ZERO, 7, 2, (3, 1))
        self.dv(MINUS_ZERO, 7, 0o77775, (0o177774, 1))

    def test_of_zeros(self):
        for l in (0, 0o77777):
            self.dv(0, l, 5, (0, 0))
            self.dv(MINUS_ZERO, l, 5, (MINUS_ZERO, 0o77777))
            self.dv(0, l, 0o77772, (MINUS_ZERO, 0))
            self.dv(MINUS_ZERO, l, 0o77772, (0, 0o77777))

    def test_nothing_left(self):
        self.dv(0, 6, 2, (3, 0))
        self.dv(0, 0o77771, 2, (0o177774, 0o77777))
        self.dv(0, 1, 0o77775, (MINUS_ZERO, 1))

    def test_by_zeros(self):
        for a, l, word, new_a in ((5, 7, 0, MOST), (5, 7, 0o77777, LEAST), (0o177772, 7, 0, LEAST),
                                  (0o177772, 7, 0o77777, MOST), (0, 0, 0, MOST), (MINUS_ZERO, 0, 0, LEAST),
                                  (0, 0, 0o77777, LEAST), (MINUS_ZERO, 3, 0, MOST), (0, 0o77774, 0, LEAST)):
            self.dv(a, l, word, (new_a, l))

    def test_what_does_not_fit(self):
        self.dv(5, 7, 5, (MOST, 7))
        self.dv(5, 7, 0o77772, (LEAST, 7))
        self.dv(0o177772, 0o77770, 5, (LEAST, 0o77770))
        self.dv(0o177772, 7, 5, (0o177777 - 16382, 0o77777 - 3))
        self.dv(0o177772, 0o77770, 0o77772, (MOST, 0o77770))
        # 5 * 16384 - 1 by 5 is 16383, which just fits; 5 * 16384 is 16384.
        self.dv(5, 0o77776, 5, (MOST, 4))
        self.dv(5, 0, 5, (MOST, 0))
        self.dv(5, 0o77777, 5, (MOST, 0o77777))

    def test_a_is_put_narrow(self):
        self.dv(UP, 7, 2, (3, 1))
        self.dv(DOWN, 7, 2, (3, 1))
        self.dv(DOWN, 0, 2, (MINUS_ZERO, 0o77777))

    def test_by_registers(self):
        self.does("DV", 0, {"a": 5, "l": 7}, {"a": MOST})
        self.does("DV", 1, {"a": 0, "l": 7}, {"a": 1, "l": 0})
        self.does("DV", 2, {"a": 0, "l": 7, "q": UP + 2}, {"a": 3, "l": 1})

    def test_against_numbers(self):
        words = [0, 1, 5, 0o1234, 0o20000, 0o37777]
        words = words + [word ^ 0o77777 for word in words]
        for a in words:
            for l in words:
                for word in words:
                    machine = made([EXTEND, code("DV", 0o100)], a=a | (a & UP) << 1, l=l, changing={0o100: word})
                    run(machine, 2)
                    whole = number_of(a) * 16384 + number_of(l)
                    if number_of(word) and abs(whole) < abs(number_of(word)) * 16384:
                        quotient = number_of(machine.a & 0o77777)
                        self.assertEqual(quotient * number_of(word) + number_of(machine.l), whole)
                        self.assertLess(abs(number_of(machine.l)), abs(number_of(word)))


class Mp(MachineCase):
    def mp(self, a, word, after):
        new_a, new_l = after
        self.does("MP", 0o100, {"a": a, "l": 9, "changing": {0o100: word}}, {"a": new_a, "l": new_l})

    def test_all_signs(self):
        # 12345 octal is 5349; 5349 * 8000 is 2611 * 16384 + 13376.
        self.mp(5349, 8000, (2611, 13376))
        self.mp(5349, 0o77777 - 8000, (0o177777 - 2611, 0o77777 - 13376))
        self.mp(0o177777 - 5349, 8000, (0o177777 - 2611, 0o77777 - 13376))
        self.mp(0o177777 - 5349, 0o77777 - 8000, (2611, 13376))

    def test_edges(self):
        self.mp(MOST, 0o37777, (0o37776, 1))
        self.mp(LEAST, 0o40000, (0o37776, 1))
        self.mp(LEAST, 0o37777, (0o140001, 0o77776))
        self.mp(3, 5, (0, 15))
        self.mp(3, 0o77772, (MINUS_ZERO, 0o77760))

    def test_zeros(self):
        self.mp(0, 5, (0, 0))
        self.mp(0, 0o77772, (MINUS_ZERO, 0o77777))
        self.mp(MINUS_ZERO, 5, (MINUS_ZERO, 0o77777))
        self.mp(MINUS_ZERO, 0o77777, (0, 0))
        self.mp(5, 0o77777, (MINUS_ZERO, 0o77777))

    def test_a_is_put_narrow(self):
        self.mp(UP + 3, 5, (0, 15))
        self.mp(DOWN - 3, 5, (MINUS_ZERO, 0o77760))

    def test_of_places_with_12_bits(self):
        self.does("MP", 0o7777, {"a": 3, "staying": {0o7777: 5}}, {"a": 0, "l": 15})
        self.does("MP", 0, {"a": 3}, {"a": 0, "l": 9})
        self.does("MP", 0, {"a": UP + 3}, {"a": 0, "l": 9})


class Others(MachineCase):
    def test_bzf(self):
        for a in (0, MINUS_ZERO):
            for k in (0o2000, 0o5432, 0o7777):
                self.does("BZF", k, {"a": a, "q": 7}, {"z": k})
        for a in (1, 0o177776, UP, DOWN, 0o77777, 0o100000, 0o140000):
            self.does("BZF", 0o5432, {"a": a}, {})

    def test_bzmf(self):
        for a in (0, MINUS_ZERO, 0o177776, LEAST, DOWN, 0o100000):
            for k in (0o2000, 0o5432, 0o7777):
                self.does("BZMF", k, {"a": a, "q": 7}, {"z": k})
        for a in (1, MOST, UP, 0o77777):
            self.does("BZMF", 0o5432, {"a": a}, {})

    def test_msu(self):
        rows = ((5, 3, 2), (3, 5, 0o177775), (5, 5, 0), (0o177777, 0, 0o177776), (0, 0o77777, 1), (MOST, 0, MOST),
                (0o37777, 0o77777, MOST), (0o140000, 0, MOST), (0o140001, 0, 0o140000), (UP + 5, 3, 2),
                (DOWN, 0o77777, 0))
        for a, word, difference in rows:
            self.does("MSU", 0o100, {"a": a, "changing": {0o100: word}}, {"a": difference})
        self.does("MSU", 0, {"a": UP + 5}, {"a": 0})

    def test_qxch(self):
        self.does("QXCH", 0o100, {"q": UP + 5, "changing": {0o100: 0o50000}}, {"q": 0o150000, "changing": {0o100: 5}})
        self.does("QXCH", 0, {"a": UP, "q": DOWN}, {"a": DOWN, "q": UP})
        self.does("QXCH", 1, {"l": 0o50000, "q": DOWN}, {"l": 0o77777, "q": 0o150000})
        self.does("QXCH", 2, {"q": UP}, {})
        self.does("QXCH", 5, {"q": 0o5432}, {"q": 0o4002, "z": 0o5432})

    def test_aug(self):
        rows = ((0, 1), (5, 6), (0o77777, 0o77776), (0o77772, 0o77771), (0o37777, 0), (0o40000, 0o77777))
        for word, more in rows:
            self.does("AUG", 0o100, {"changing": {0o100: word}}, {"changing": {0o100: more}})
        self.does("AUG", 0, {"a": MOST}, {"a": UP})
        self.does("AUG", 0, {"a": UP}, {"a": UP + 1})
        self.does("AUG", 2, {"q": LEAST}, {"q": DOWN})
        self.does("AUG", 2, {"q": DOWN}, {"q": DOWN - 1})

    def test_dim(self):
        rows = ((0, 0), (0o77777, 0o77777), (5, 4), (1, 0o77777), (0o77776, 0o77777), (0o77772, 0o77773),
                (0o37777, 0o37776), (0o40000, 0o40001))
        for word, less in rows:
            self.does("DIM", 0o100, {"changing": {0o100: word}}, {"changing": {0o100: less}})
        self.does("DIM", 0, {"a": UP}, {"a": MOST})
        self.does("DIM", 2, {"q": DOWN}, {"q": LEAST})

    def test_aug_and_dim_at_places_that_edit(self):
        self.does("AUG", 0o21, {"changing": {0o21: 5}}, {"changing": {0o21: 3}})
        self.does("DIM", 0o20, {"changing": {0o20: 4}}, {"changing": {0o20: 0o40001}})

    def test_su(self):
        rows = ((5, 3, 2), (3, 5, 0o177775), (5, 5, MINUS_ZERO), (0, 0, MINUS_ZERO), (0, 0o77777, 0),
                (MINUS_ZERO, 0, MINUS_ZERO), (MOST, 0o77776, UP), (LEAST, 1, DOWN))
        for a, word, difference in rows:
            self.does("SU", 0o100, {"a": a, "changing": {0o100: word}}, {"a": difference})
        self.does("SU", 0, {"a": UP}, {"a": MINUS_ZERO})
        self.does("SU", 2, {"a": 1, "q": DOWN}, {"a": UP + 1})


class Pairs(MachineCase):
    def test_dca(self):
        self.does("DCA", 0o101, {"changing": {0o100: 0o51234, 0o101: 0o43210}}, {"a": 0o151234, "l": 0o43210})
        self.does("DCA", 0o5001, {"staying": {0o5000: 3, 0o5001: 5}}, {"a": 3, "l": 5})
        self.does("DCA", 0o6000, {"staying": {0o5777: 3, 0o6000: 5}}, {"a": 3, "l": 5})

    def test_dcs(self):
        self.does("DCS", 0o101, {"changing": {0o100: 0o51234, 0o101: 0o43210}}, {"a": 0o026543, "l": 0o34567})
        self.does("DCS", 0o101, {}, {"a": MINUS_ZERO, "l": 0o77777})
        self.does("DCS", 0o5001, {"staying": {0o5000: 3, 0o5001: 5}}, {"a": 0o177774, "l": 0o77772})

    def test_of_registers(self):
        self.does("DCA", 1, {"a": UP, "l": 5}, {})
        self.does("DCS", 1, {"a": UP, "l": 5}, {"a": DOWN, "l": 0o77772})
        self.does("DCA", 2, {"a": 1, "l": 0o50000, "q": UP + 5}, {"a": 0o150000, "l": 5})
        self.does("DCS", 2, {"a": 1, "l": 0o50000, "q": UP + 5}, {"a": 0o27777, "l": 0o77772})
        self.does("DCA", 3, {"q": UP + 5, "eb": 3}, {"a": UP + 5, "l": 0o1400})

    def test_edges_of_j(self):
        # The place ahead of 0 is 07777, of the twelve bits.
        self.does("DCA", 0, {"a": UP + 5, "staying": {0o7777: 0o50000}}, {"a": 0o150000, "l": 5})
        self.does("DCS", 0, {"a": UP + 5, "staying": {0o7777: 0o50000}}, {"a": 0o27777, "l": 0o77772})
        self.does("DCA", 0o7777, {"staying": {0o7776: 3, 0o7777: 5}}, {"a": 3, "l": 5})
        self.does("DCA", 0o2000, {"eb": 7, "fb": 5, "changing": {2047: 3}, "staying": {5120: 5}}, {"a": 3, "l": 5})
        self.does("DCA", 0o4000, {"fb": 5, "staying": {6143: 3}}, {"a": 3, "l": EXTEND})
        self.does("DCA", 0o1400, {"eb": 2, "changing": {0o1377: 3, 0o1000: 5}}, {"a": 3, "l": 5})


class ExtendedIndex(MachineCase):
    def test_the_next_is_of_the_second_list(self):
        self.does("XINDEX", 0o100, {"changing": {0o100: 3}}, {"index_word": 3, "extended": True})
        self.does("XINDEX", 0o100, {}, {"extended": True})
        words = [EXTEND, code("XINDEX", 0o100), code("SU", 0o200), code("AD", 0o200)]
        self.ran(words, {"changing": {0o100: 3, 0o200: 7, 0o203: 0o1000}}, {"a": 0o177006})

    def test_of_places_with_12_bits(self):
        self.does("XINDEX", 0o7777, {"staying": {0o7777: 0o51234}}, {"index_word": 0o51234, "extended": True})

    def test_017_is_no_resume(self):
        before = {"serving": True, "changing": {0o15: 0o5000, 0o17: 3}}
        self.does("XINDEX", 0o17, before, {"index_word": 3, "extended": True})

    def test_several(self):
        words = [EXTEND, code("XINDEX", 0o100), code("XINDEX", 0o200), code("MP", 0o300)]
        before = {"a": 3, "changing": {0o100: 1, 0o200: 0o10, 0o201: 0o20, 0o320: 5}}
        self.ran(words, before, {"a": 0, "l": 15})
