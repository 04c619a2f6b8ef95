from fifteenbits.places import read_channel, read_narrow, read_wide, write, write_channel
from rig import MachineCase, code, made, put

OVER_UP = 0o41234
OVER_DOWN = 0o134567


class Registers(MachineCase):
    def reads(self, place, as_narrow, as_wide, **state):
        machine = made(**state)
        self.assertEqual(oct(read_narrow(machine, place)), oct(as_narrow))
        self.assertEqual(oct(read_wide(machine, place)), oct(as_wide))
        self.same(machine, made(**state))

    def writes(self, place, word, after, **state):
        machine = made(**state)
        write(machine, place, word)
        expected = made(**state)
        put(expected, after)
        self.same(machine, expected, (oct(place), oct(word)))

    def test_a_and_q_are_read_narrow_and_wide(self):
        self.reads(0, 0o1234, OVER_UP, a=OVER_UP)
        self.reads(0, 0o74567, OVER_DOWN, a=OVER_DOWN)
        self.reads(2, 0o1234, OVER_UP, q=OVER_UP)
        self.reads(2, 0o74567, OVER_DOWN, q=OVER_DOWN)

    def test_other_registers_are_read_at_their_bits(self):
        self.reads(1, 0o54321, 0o154321, l=0o54321)
        self.reads(3, 0o3400, 0o3400, eb=7)
        self.reads(4, 0o76000, 0o176000, fb=0o37)
        self.reads(4, 0o02000, 0o02000, fb=1)
        self.reads(5, 0o7654, 0o7654, z=0o7654)
        self.reads(6, 0o42005, 0o142005, fb=0o21, eb=5)
        self.reads(7, 0, 0, a=0o177777, fb=3, eb=2)

    def test_a_and_q_take_16_bits(self):
        self.writes(0, OVER_UP, {"a": OVER_UP})
        self.writes(2, OVER_DOWN, {"q": OVER_DOWN})

    def test_other_registers_take_their_bits_narrow(self):
        self.writes(1, OVER_UP, {"l": 0o1234})
        self.writes(1, OVER_DOWN, {"l": 0o74567})
        self.writes(3, 0o177777, {"eb": 7})
        self.writes(3, 0o174377, {"eb": 0}, eb=5)
        self.writes(3, 0o001000, {"eb": 2})
        self.writes(4, 0o177777, {"fb": 0o37})
        self.writes(4, 0o001777, {"fb": 0}, fb=3)
        # The upper sign is the one that counts, in both ways.
        self.writes(4, 0o042000, {"fb": 1})
        self.writes(4, 0o102000, {"fb": 0o21})
        self.writes(5, 0o176543, {"z": 0o6543})
        self.writes(6, 0o177777, {"fb": 0o37, "eb": 7})
        self.writes(6, 0o101772, {"fb": 0o20, "eb": 2}, eb=7)
        self.writes(6, 0o001770, {"fb": 0, "eb": 0}, eb=7, fb=9)

    def test_7_stays_0(self):
        self.writes(7, 0o177777, {})
        self.does("TS", 7, {"a": 0o12345}, {})
        self.does("XCH", 7, {"a": 0o12345}, {"a": 0})
        self.does("INCR", 7, {}, {})

    def test_what_stays_is_not_written(self):
        for place in (0o2000, 0o3777, 0o4000, 0o7777):
            self.writes(place, 0o12345, {}, fb=5)


class Memory(MachineCase):
    def fills(self):
        """Words of which each tells its own number."""
        changing = {number: number + 0o20000 for number in range(8, 2048)}
        staying = {number: number & 0o77777 for number in range(40 * 1024)}
        return made(changing=changing, staying=staying)

    def test_words_that_change_by_their_numbers(self):
        for eb in (0, 5):
            machine = self.fills()
            machine.eb = eb
            for place in (0o10, 0o100, 0o377, 0o400, 0o1377):
                self.assertEqual(read_narrow(machine, place), 0o20000 + place)
                write(machine, place, 0o177776)
                self.assertEqual(machine.changing[place], 0o77776)
                self.assertEqual(read_wide(machine, place), 0o177776)

    def test_window_by_eb(self):
        for eb in range(8):
            for place in (0o1410, 0o1500, 0o1777):
                machine = self.fills()
                machine.eb = eb
                number = 256 * eb + place - 0o1400
                self.assertEqual(read_narrow(machine, place), 0o20000 + number)
                write(machine, place, OVER_UP)
                self.assertEqual(machine.changing[number], 0o1234)
                self.assertEqual(sum(machine.changing), sum(self.fills().changing) - 0o20000 - number + 0o1234)

    def test_window_of_eb_0_begins_with_the_registers(self):
        state = {"a": OVER_UP, "l": 0o54321, "q": OVER_DOWN, "fb": 0o21}
        machine = made(**state)
        for number in range(8):
            self.assertEqual(read_narrow(machine, 0o1400 + number), read_narrow(machine, number))
            self.assertEqual(read_wide(machine, 0o1400 + number), read_wide(machine, number))
        for number in range(8):
            by_window = made(**state)
            by_number = made(**state)
            write(by_window, 0o1400 + number, 0o113572)
            write(by_number, number, 0o113572)
            self.same(by_window, by_number, number)

    def test_window_of_other_eb_begins_with_words(self):
        machine = self.fills()
        machine.eb = 1
        self.assertEqual(read_narrow(machine, 0o1400), 0o20400)
        write(machine, 0o1405, 0o1111)
        self.assertEqual(machine.changing[0o405], 0o1111)
        self.assertEqual(machine.z, 0o4000)

    def test_banks_2_and_3_have_their_places(self):
        machine = self.fills()
        machine.fb = 9
        for place in (0o4000, 0o5777, 0o6000, 0o7777):
            self.assertEqual(read_narrow(machine, place), place)

    def test_bank_fb(self):
        for fb in range(32):
            for bit, place in ((0, 0o2000), (0, 0o3777), (0o77677, 0o2001)):
                machine = self.fills()
                put(machine, {"fb": fb, "channels": {7: bit}})
                self.assertEqual(read_narrow(machine, place), (1024 * fb + place - 1024) & 0o77777, (fb, bit))

    def test_banks_from_030_on_are_eight_further_with_the_bit(self):
        for fb in range(32):
            bank = fb + 8 if fb >= 0o30 else fb
            machine = made(fb=fb, channels={7: 0o100}, staying={1024 * bank + 1023: 0o51234})
            self.assertEqual(read_narrow(machine, 0o3777), 0o51234, fb)
            self.assertEqual(read_wide(machine, 0o3777), 0o151234, fb)

    def test_programs_read_by_bank(self):
        before = {"fb": 0o37, "staying": {31 * 1024 + 5: 0o111, 39 * 1024 + 5: 0o222}}
        self.does("CA", 0o2005, before, {"a": 0o111})
        before["channels"] = {7: 0o100}
        self.does("CA", 0o2005, before, {"a": 0o222})


class Editing(MachineCase):
    # The place, a word, what is kept of it, and what is kept when that is edited anew.
    ROWS = (
        (0o20, 0o12345, 0o45162, 0o22471), (0o20, 0o00001, 0o40000, 0o20000), (0o20, 0o77777, 0o77777, 0o77777),
        (0o21, 0o12345, 0o05162, 0o02471), (0o21, 0o40000, 0o60000, 0o70000), (0o21, 0o00001, 0, 0),
        (0o22, 0o12345, 0o24712, 0o51624), (0o22, 0o40000, 0o00001, 0o00002), (0o22, 0o51624, 0o23451, 0o47122),
        (0o23, 0o12345, 0o00051, 0), (0o23, 0o77777, 0o00177, 0), (0o23, 0o40177, 0, 0),
    )

    def test_written(self):
        for place, word, kept, anew in self.ROWS:
            wide = word | (word & 0o40000) << 1
            self.does("TS", place, {"a": wide}, {"changing": {place: kept}})
            self.does("XCH", place, {"a": wide}, {"a": 0, "changing": {place: kept}})
            self.does("LXCH", place, {"l": word}, {"l": 0, "changing": {place: kept}})
            self.does("QXCH", place, {"q": wide}, {"q": 0, "changing": {place: kept}})
            self.does("DXCH", place, {"l": word}, {"l": 0, "changing": {place: kept}})

    def test_written_by_the_window_of_eb_0_only(self):
        self.does("TS", 0o1421, {"a": 0o12345}, {"changing": {0o21: 0o05162}})
        self.does("TS", 0o1421, {"a": 0o12345, "eb": 1}, {"changing": {0o421: 0o12345}})

    def test_neighbours_are_not_edited(self):
        for place in (0o17, 0o24):
            self.does("TS", place, {"a": 0o12345}, {"changing": {place: 0o12345}})

    def test_written_words_are_put_narrow_first(self):
        self.does("INCR", 0o20, {"changing": {0o20: 0o37777}}, {"changing": {0o20: 0}})
        self.does("ADS", 0o21, {"a": 0o37777, "changing": {0o21: 5}}, {"a": 0o40004, "changing": {0o21: 2}})

    def test_edited_anew_behind_reading(self):
        for place, word, kept, anew in self.ROWS:
            wide = kept | (kept & 0o40000) << 1
            before = {"changing": {place: kept}}
            after = {"changing": {place: anew}}
            self.does("CA", place, before, dict(after, a=wide))
            self.does("CS", place, before, dict(after, a=wide ^ 0o177777))
            self.does("AD", place, before, dict(after, a=wide))
            self.does("INDEX", place, before, dict(after, index_word=kept))
            self.does("XINDEX", place, before, dict(after, index_word=kept, extended=True))
            self.does("SU", place, before, dict(after, a=wide ^ 0o177777))

    def test_edited_anew_by_the_window(self):
        before = {"changing": {0o22: 0o51624}}
        self.does("CA", 0o1422, before, {"a": 0o151624, "changing": {0o22: 0o23451}})
        before = {"eb": 1, "changing": {0o22: 0o51624, 0o422: 0o51624}}
        self.does("CA", 0o1422, before, {"a": 0o151624})

    def test_edited_anew_behind_ccs(self):
        before = {"changing": {0o20: 5}}
        self.does("CCS", 0o20, before, {"a": 4, "changing": {0o20: 0o40002}})
        self.does("CCS", 0o22, {"changing": {0o22: 0o40000}}, {"a": 0o37776, "z": 0o4003, "changing": {0o22: 1}})

    def test_pairs_are_edited_anew(self):
        before = {"changing": {0o20: 3, 0o21: 6, 0o22: 0o40001, 0o23: 0o7600}}
        self.does("DCA", 0o21, before, {"a": 3, "l": 6, "changing": {0o20: 0o40001, 0o21: 3}})
        self.does("DCS", 0o21, before, {"a": 0o177774, "l": 0o77771, "changing": {0o20: 0o40001, 0o21: 3}})
        self.does("DCA", 0o23, before, {"a": 0o140001, "l": 0o7600, "changing": {0o22: 3, 0o23: 0o37}})
        self.does("DCA", 0o22, before, {"a": 6, "l": 0o40001, "changing": {0o21: 3, 0o22: 3}})
        self.does("DCA", 0o20, before, {"l": 3, "changing": {0o20: 0o40001}})
        self.does("DCA", 0o24, before, {"a": 0o7600, "changing": {0o23: 0o37}})

    def test_not_edited_anew_behind_others(self):
        before = {"a": 0o177777, "l": 1, "changing": {0o20: 3}}
        self.does("MASK", 0o20, before, {"a": 3})
        self.does("MSU", 0o20, before, {"a": 0o177773})
        self.does("MP", 0o20, before, {"a": 0o177777, "l": 0o77777})
        self.does("DV", 0o20, dict(before, a=0), {"a": 0, "l": 1})
        self.does("DIM", 0o23, {"changing": {0o23: 0o77777}}, {})

    def test_an_instruction_taken_from_there_is_not_edited(self):
        before = {"z": 0o20, "changing": {0o20: code("TCF", 0o4000), 0o22: 5}}
        self.ran([], before, {"z": 0o4000}, turns=1)


class Channels(MachineCase):
    def test_1_is_l(self):
        machine = made(l=0o51234)
        self.assertEqual(read_channel(machine, 1), 0o51234)
        write_channel(machine, 1, 0o43210)
        self.same(machine, made(l=0o43210))

    def test_2_is_q_narrow_and_put_wide(self):
        machine = made(q=OVER_DOWN)
        self.assertEqual(read_channel(machine, 2), 0o74567)
        write_channel(machine, 2, 0o43210)
        self.same(machine, made(q=0o143210))

    def test_others_are_words_of_their_own(self):
        machine = made(l=5, q=6)
        for channel in (0, 3, 7, 511):
            write_channel(machine, channel, 0o70000 + channel)
        for channel in (0, 3, 7, 511):
            self.assertEqual(read_channel(machine, channel), 0o70000 + channel)
        self.same(machine, made(l=5, q=6, channels={0: 0o70000, 3: 0o70003, 7: 0o70007, 511: 0o70777}))
