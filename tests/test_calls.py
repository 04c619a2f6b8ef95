"""The calls of a line, and their answers."""

from fifteenbits.guide import answers, follow
from fifteenbits.machine import Machine
from rig import ASK, BEGIN, LEAST_INT, MOST_INT, MOST_NUMBER, PULSE, RUN, MachineCase, code, load, made, put


class CallCase(MachineCase):
    def leaves(self, calls, answered, after=None, **state):
        """Calls on a machine in some state; what `after` does not name stays as it was."""
        machine = made(**state)
        self.assertEqual(follow(machine, calls), [1, answered], calls)
        expected = made(**state)
        put(expected, after or {})
        self.same(machine, expected, calls)


class Begin(CallCase):
    def test_first(self):
        machine = Machine()
        self.assertEqual(follow(machine, [BEGIN]), [1, 0])
        self.assertEqual((machine.a, machine.l, machine.q, machine.eb, machine.fb, machine.z), (0, 0, 0, 0, 0, 0o4000))
        self.assertEqual((machine.barred, machine.serving, machine.asked), (False, False, 0))
        self.assertEqual((machine.extended, machine.index_word, machine.instead), (False, 0, None))
        self.assertEqual((machine.changing, machine.staying, machine.channels), ([0] * 2048, [0] * 40960, [0] * 512))

    def test_again(self):
        machine = made(a=1, l=2, q=3, eb=4, fb=5, z=6, barred=True, serving=True, asked=7, extended=True,
                       index_word=8, instead=9, changing={8: 1, 2047: 2}, staying={0: 3, 40959: 4},
                       channels={0: 5, 7: 0o100, 511: 6})
        self.assertEqual(follow(machine, [BEGIN]), [1, 0])
        self.same(machine, Machine())

    def test_again_in_a_line(self):
        machine = Machine()
        words = [code("CA", 0o4000), code("TS", 0o100), 4, 6]
        calls = [BEGIN] + load(2, 0, words) + load(39, 1023, [5]) + [ASK, 3, RUN, 9, PULSE, 20, 1, BEGIN]
        self.assertEqual(follow(machine, calls), [1, 0] * 7)
        self.same(machine, Machine())


class Load(CallCase):
    def test_words(self):
        self.leaves(load(0, 0, [1]), 0, {"staying": {0: 1}})
        self.leaves(load(5, 7, [1, 2, 0o77777]), 0, {"staying": {5127: 1, 5128: 2, 5129: 0o77777}})
        self.leaves(load(2, 0, [0, 4]), 0, {"staying": {2048: 0, 2049: 4}}, staying={2048: 1, 2049: 2, 2050: 3})

    def test_lower_15_bits(self):
        self.leaves(load(1, 0, [0o100000, 0o177777, 0o112345, 65535]), 0,
                    {"staying": {1025: 0o77777, 1026: 0o12345, 1027: 0o77777}})

    def test_none(self):
        for bank, at in ((0, 0), (39, 1024), (2, 1023)):
            self.leaves(load(bank, at, []), 0)

    def test_edges_of_at_and_n(self):
        self.leaves(load(3, 1023, [9]), 0, {"staying": {4095: 9}})
        self.leaves(load(3, 1023, [9, 9]), -1)
        self.leaves(load(3, 1024, [9]), -1)
        self.leaves(load(3, 1025, []), -1)
        self.leaves(load(3, 0, [9] * 1024), 0, {"staying": {3072 + number: 9 for number in range(1024)}})
        self.leaves(load(3, 0, [9] * 1025), -1)
        self.leaves(load(3, 1, [9] * 1024), -1)

    def test_edges_of_bank(self):
        self.leaves(load(39, 1023, [9]), 0, {"staying": {40959: 9}})
        self.leaves(load(40, 0, [9]), -1)
        self.leaves(load(40, 0, []), -1)
        self.leaves(load(MOST_NUMBER, 0, [9]), -1)

    def test_refused_without_words(self):
        self.leaves(load(40, 0, [], n=5), -1)
        self.leaves(load(0, 1020, [], n=5), -1)
        self.leaves(load(0, MOST_NUMBER, [], n=1), -1)
        self.leaves(load(0, 1, [], n=MOST_NUMBER), -1)
        self.leaves(load(0, MOST_NUMBER, [], n=MOST_NUMBER), -1)

    def test_a_refusal_changes_nothing(self):
        state = {"a": 5, "asked": 3, "extended": True, "staying": {0: 1, 1023: 2, 40959: 3}}
        self.leaves(load(0, 1023, [9, 9]), -1, **state)
        self.leaves(load(40, 0, [9]), -1, **state)

    def test_the_line_goes_on_behind_a_refusal(self):
        machine = Machine()
        calls = [BEGIN] + load(40, 0, [1, 2, 3]) + load(40, 0, [], n=3) + load(2, 0, [code("CA", 5)]) + [RUN, 1]
        self.assertEqual(follow(machine, calls), [1, 0, 1, -1, 1, -1, 1, 0, 1, 0])
        self.assertEqual((machine.a, machine.z), (0o4001, 0o4001))


class Run(CallCase):
    def test_turns(self):
        words = {0o4000: code("INCR", 0o100), 0o4001: code("TCF", 0o4000)}
        self.leaves([RUN, 0], 0, staying=words)
        self.leaves([RUN, 1], 0, {"z": 0o4001, "changing": {0o100: 1}}, staying=words)
        self.leaves([RUN, 2], 0, {"changing": {0o100: 1}}, staying=words)
        self.leaves([RUN, 20001], 0, {"z": 0o4001, "changing": {0o100: 10001}}, staying=words)

    def test_refusals(self):
        state = {"staying": {0o4000: code("INCR", 0o100)}, "asked": 1}
        for n in (-1, LEAST_INT, 10000001, MOST_INT):
            self.leaves([RUN, n], -1, **state)

    def test_the_most_turns(self):
        self.leaves([RUN, 10000000], 0, {"q": 1, "z": 0})

    def test_an_interrupt_is_a_turn(self):
        state = {"staying": {0o5000: code("TCF", 0o5000), 0o4004: code("INCR", 0o100)}, "z": 0o5000, "asked": 2}
        came_in = {"z": 0o4004, "asked": 0, "serving": True, "changing": {0o15: 0o5000, 0o17: code("TCF", 0o5000)}}
        self.leaves([RUN, 0], 0, **state)
        self.leaves([RUN, 1], 0, came_in, **state)
        came_in["z"] = 0o4005
        came_in["changing"][0o100] = 1
        self.leaves([RUN, 2], 0, came_in, **state)

    def test_what_one_turn_leaves_for_the_next_lasts_from_call_to_call(self):
        words = [6, code("XINDEX", 0o100), code("SU", 0o100), code("INDEX", 0o17)]
        by_one = made(words, changing={0o100: 1, 0o15: 0o4005, 0o17: code("CA", 5), 0o101: 7})
        at_once = made(words, changing={0o100: 1, 0o15: 0o4005, 0o17: code("CA", 5), 0o101: 7})
        self.assertEqual(follow(by_one, [RUN, 1] * 5), [1, 0] * 5)
        follow(at_once, [RUN, 5])
        self.same(by_one, at_once)
        self.assertEqual((by_one.a, by_one.z), (0o4006, 0o4006))


class Ask(CallCase):
    def test_each(self):
        for k in range(11):
            self.leaves([ASK, k], 0, {"asked": 1 << k})
        self.leaves([ASK, 10], 0, {"asked": 0o2001}, asked=1)
        self.leaves([ASK, 4], 0, asked=0o20)

    def test_refusals(self):
        for k in (-1, 11, 12, LEAST_INT, MOST_INT):
            self.leaves([ASK, k], -1, asked=5)

    def test_it_does_not_matter_whether_they_may_come_in(self):
        self.leaves([ASK, 4], 0, {"asked": 0o20}, barred=True, serving=True)


class Pulse(CallCase):
    def up(self, k, before, after, **more):
        self.leaves([PULSE, k, 0], 0, dict(more, changing=after), changing=before)

    def down(self, k, before, after):
        self.leaves([PULSE, k, 1], 0, {"changing": after}, changing=before)

    def test_every_counter(self):
        for k in range(20, 49):
            self.up(k, {k: 5}, {k: 6})
            self.down(k, {k: 5}, {k: 4})

    def test_zeros(self):
        self.up(20, {20: 0o77777}, {20: 1})
        self.up(20, {20: 0o77776}, {20: 0o77777})
        self.down(20, {}, {20: 0o77776})
        self.down(20, {20: 1}, {20: 0o77777})
        self.down(20, {20: 0o77777}, {20: 0o77776})

    def test_overflow_up(self):
        self.up(0o24, {0o24: 0o37777}, {0o24: 0})
        self.up(0o26, {0o26: 0o37777}, {0o26: 0}, asked=1 << 3)
        self.up(0o27, {0o27: 0o37777}, {0o27: 0}, asked=1 << 4)
        self.up(0o30, {0o30: 0o37777}, {0o30: 0}, asked=1 << 2)
        for k in range(0o31, 0o61):
            self.up(k, {k: 0o37777}, {k: 0})

    def test_overflow_of_025_counts_024(self):
        self.up(0o25, {0o25: 0o37777, 0o24: 5}, {0o25: 0, 0o24: 6})
        self.up(0o25, {0o25: 0o37777, 0o24: 0o37777}, {0o25: 0, 0o24: 0})
        self.up(0o25, {0o25: 0o37777, 0o24: 0o77777}, {0o25: 0, 0o24: 1})
        self.up(0o25, {0o25: 0o37776, 0o24: 5}, {0o25: 0o37777})

    def test_just_below_overflow_nothing_is_asked_for(self):
        for k in (0o26, 0o27, 0o30):
            self.up(k, {k: 0o37776}, {k: 0o37777})

    def test_what_is_asked_for_already_stays(self):
        self.leaves([PULSE, 0o26, 0], 0, {"asked": 0o11, "changing": {0o26: 0}}, asked=1, changing={0o26: 0o37777})
        self.leaves([PULSE, 0o26, 0], 0, {"changing": {0o26: 0}}, asked=0o10, changing={0o26: 0o37777})

    def test_overflow_down_asks_for_nothing(self):
        for k in range(20, 49):
            self.down(k, {k: 0o40000}, {k: 0o77777})

    def test_refusals(self):
        state = {"changing": {19: 5, 20: 5, 48: 5, 49: 5}}
        for k in (19, 49, 0, -1, 20 - 256, LEAST_INT, MOST_INT):
            for down in (0, 1, 2):
                self.leaves([PULSE, k, down], -1, **state)
        for down in (2, -1, 3, LEAST_INT, MOST_INT):
            for k in (20, 48):
                self.leaves([PULSE, k, down], -1, **state)

    def test_the_interrupt_comes_in(self):
        machine = made(z=0o5000, staying={0o5000: code("TCF", 0o5000)}, changing={0o30: 0o37777})
        self.assertEqual(follow(machine, [PULSE, 24, 0, RUN, 1]), [1, 0, 1, 0])
        self.assertEqual((machine.z, machine.serving, machine.asked), (0o4010, True, 0))


class Answers(CallCase):
    LINE = ([BEGIN] + load(2, 0, [code("INCR", 0o30), code("TCF", 0o4000)]) + [RUN, 100, RUN, -1, ASK, 10, ASK, 11]
            + [PULSE, 48, 1, PULSE, 49, 0] + load(40, 0, []) + [BEGIN, RUN, 10000001])

    def test_a_line(self):
        self.assertEqual(answers([BEGIN]), [1, 0])
        expected = [0, 0, 0, -1, 0, -1, 0, -1, -1, 0, -1]
        self.assertEqual(answers(self.LINE), [number for answer in expected for number in (1, answer)])

    def test_it_is_whole_numbers_in_a_list(self):
        given = answers(self.LINE)
        self.assertIs(type(given), list)
        self.assertEqual({type(number) for number in given}, {int})

    def test_what_is_handed_in_stays(self):
        calls = list(self.LINE)
        answers(calls)
        self.assertEqual(calls, self.LINE)

    def test_what_is_given_back_is_new(self):
        calls = [BEGIN, RUN, 5]
        given = answers(calls)
        given.append(7)
        self.assertEqual(answers(calls), [1, 0, 1, 0])

    def test_each_line_is_as_the_first(self):
        once = answers(self.LINE)
        self.assertEqual(answers(self.LINE), once)
        loaded = [BEGIN] + load(2, 0, [code("CA", 5), 4, code("TS", 7)]) + [ASK, 3, RUN, 3]
        answers(loaded)
        machine = Machine()
        self.same(machine, made())
        follow(machine, [BEGIN, RUN, 1])
        self.same(machine, made(q=0o4001, z=0))

    def test_300_calls(self):
        self.assertEqual(answers([BEGIN] * 300), [1, 0] * 300)
        self.assertEqual(answers([BEGIN] + [PULSE, 20, 0] * 299), [1, 0] * 300)
