"""Interrupts: when one comes in, which one, what it leaves; and RESUME."""

from fifteenbits.turns import run, stands_still, take_turn
from rig import EXTEND, MachineCase, code, made, put

CA = code("CA", 0o100)
UP = 0o40000


class ComingIn(MachineCase):
    def comes_in(self, which, before, **also):
        """Interrupt `which` takes the next turn, at Z as `before` has it."""
        machine = made(**before)
        place = machine.z
        word = machine.staying[place]
        run(machine, 1)
        expected = made(**before)
        put(expected, {"changing": {0o15: place, 0o17: word}, "z": 0o4000 + 4 * which, "serving": True,
                       "asked": expected.asked & ~(1 << which)})
        put(expected, also)
        self.same(machine, expected, before)

    def test_what_it_leaves(self):
        for which in range(11):
            self.comes_in(which, {"z": 0o5000, "asked": 1 << which, "staying": {0o5000: 0o54321}})

    def test_takes_a_turn_of_its_own(self):
        before = {"z": 0o5000, "asked": 1 << 3, "staying": {0o5000: CA, 0o4014: CA}, "changing": {0o100: 5}}
        machine = made(**before)
        run(machine, 1)
        self.assertEqual((machine.a, machine.z), (0, 0o4014))
        run(machine, 1)
        self.assertEqual((machine.a, machine.z), (5, 0o4015))

    def test_the_first_of_several(self):
        self.comes_in(0, {"z": 0o5000, "asked": 0o3777})
        self.comes_in(2, {"z": 0o5000, "asked": 0o3774})
        self.comes_in(9, {"z": 0o5000, "asked": 0o3000})

    def test_it_reads_before_it_sets(self):
        machine = made(z=0o15, asked=1, changing={0o15: 0o1111})
        run(machine, 1)
        self.same(machine, made(z=0o4000, serving=True, changing={0o15: 0o15, 0o17: 0o1111}))
        machine = made(z=0o17, asked=1, changing={0o17: 0o1111})
        run(machine, 1)
        self.same(machine, made(z=0o4000, serving=True, changing={0o15: 0o17, 0o17: 0o1111}))

    def test_the_word_there_may_be_a_register(self):
        machine = made(z=0, a=0o152345, asked=2)
        run(machine, 1)
        self.same(machine, made(z=0o4004, a=0o152345, serving=True, changing={0o17: 0o52345}))

    def test_it_needs_no_change_of_other_overflows(self):
        self.comes_in(1, {"z": 0o5000, "asked": 2, "q": UP})
        self.comes_in(1, {"z": 0o5000, "asked": 2, "a": 0o177777})


class NotComingIn(MachineCase):
    def waits(self, before, turns=1):
        """No interrupt comes in while `turns` turns are taken; what is asked for stays so."""
        machine = made(**before)
        asked = machine.asked
        for turn in range(turns):
            take_turn(machine)
            self.assertEqual(machine.asked, asked, before)
            self.assertEqual((machine.changing[0o15], machine.changing[0o17]), (0, 0), before)
        return machine

    def then_comes_in(self, machine, place):
        asked = machine.asked
        take_turn(machine)
        self.assertNotEqual(machine.asked, asked)
        self.assertEqual(oct(machine.changing[0o15]), oct(place))

    def test_when_none_is_asked_for(self):
        self.ran([CA], {"changing": {0o100: 5}}, {"a": 5})

    def test_when_they_may_not(self):
        machine = self.waits({"asked": 1, "barred": True, "staying": {0o4000: CA, 0o4001: CA, 0o4002: 3}}, 3)
        self.then_comes_in(machine, 0o4003)

    def test_behind_tc_4(self):
        machine = made([4, CA, CA])
        run(machine, 1)
        machine.asked = 1
        run(machine, 2)
        self.assertEqual((machine.asked, machine.z), (1, 0o4003))

    def test_while_one_is_served(self):
        machine = self.waits({"asked": 0o3777, "serving": True, "staying": {0o4000: CA, 0o4001: CA}}, 2)
        self.assertTrue(machine.serving)

    def test_behind_extend(self):
        machine = made([EXTEND, code("SU", 0o100), CA])
        run(machine, 1)
        machine.asked = 1
        run(machine, 1)
        self.assertEqual((machine.asked, machine.a, machine.z), (1, 0o177777, 0o4002))
        self.then_comes_in(machine, 0o4002)

    def test_behind_index(self):
        for word in (3, 0o77774, 0o77777):
            machine = made([code("INDEX", 0o101), CA, CA], changing={0o101: word})
            run(machine, 1)
            machine.asked = 1
            run(machine, 1)
            self.assertEqual((machine.asked, machine.z), (1, 0o4002), oct(word))
            self.then_comes_in(machine, 0o4002)

    def test_behind_index_of_0_one_comes_in(self):
        machine = made([code("INDEX", 0o101), CA, CA])
        run(machine, 1)
        machine.asked = 1
        self.then_comes_in(machine, 0o4001)

    def test_behind_index_of_the_second_list(self):
        for word in (3, 0o77777, 0):
            machine = made([EXTEND, code("XINDEX", 0o101), code("SU", 0o100), CA], changing={0o101: word})
            run(machine, 2)
            machine.asked = 1
            run(machine, 1)
            self.assertEqual((machine.asked, machine.z), (1, 0o4003), oct(word))
            self.then_comes_in(machine, 0o4003)

    def test_behind_resume(self):
        machine = made([code("INDEX", 0o17)], serving=True, asked=1,
                       changing={0o15: 0o5000, 0o17: CA, 0o100: 5})
        run(machine, 2)
        self.assertEqual((machine.asked, machine.a, machine.z, machine.serving), (1, 5, 0o5001, False))
        self.then_comes_in(machine, 0o5001)

    def test_while_a_has_overflown(self):
        for over in (UP, 0o137777, 0o77777, 0o100000):
            machine = made([code("CS", 0), CA, CA], asked=1, a=over)
            run(machine, 2)
            self.assertEqual((machine.asked, machine.z), (1, 0o4002), oct(over))
            self.then_comes_in(machine, 0o4002)


class Served(MachineCase):
    def test_there_and_back(self):
        program = {0o5000: code("INCR", 0o100), 0o5001: code("TCF", 0o5000),
                   0o4010: code("INCR", 0o101), 0o4011: code("INDEX", 0o17)}
        machine = made(staying=program, z=0o5000)
        run(machine, 1)
        machine.asked = 1 << 2
        run(machine, 1)
        self.assertEqual((machine.z, machine.serving), (0o4010, True))
        run(machine, 2)
        self.assertEqual((machine.z, machine.serving, machine.asked), (0o5001, False, 0))
        run(machine, 2)
        self.assertEqual((machine.z, machine.changing[0o100], machine.changing[0o101]), (0o5001, 2, 1))
        self.assertEqual((machine.changing[0o15], machine.changing[0o17]), (0o5001, code("TCF", 0o5000)))

    def test_one_behind_another(self):
        program = {0o5000: code("TCF", 0o5000), 0o4004: code("INDEX", 0o17), 0o4020: code("INDEX", 0o17)}
        machine = made(staying=program, z=0o5000, asked=0o22)
        places = []
        for turn in range(7):
            run(machine, 1)
            places.append(machine.z)
        self.assertEqual(places, [0o4004, 0o5000, 0o5000, 0o4020, 0o5000, 0o5000, 0o5000])
        self.assertEqual((machine.asked, machine.serving), (0, False))

    def test_asked_for_again_while_it_is_served(self):
        program = {0o5000: code("TCF", 0o5000), 0o4004: CA, 0o4005: code("INDEX", 0o17)}
        machine = made(staying=program, z=0o5000, asked=2)
        run(machine, 1)
        machine.asked = 2
        run(machine, 4)
        self.assertEqual((machine.z, machine.asked, machine.serving), (0o4004, 0, True))


class StandingStill(MachineCase):
    """A long run gives what its turns give one by one, also where the machine waits in one place."""

    JUMP = {0o5000: code("TCF", 0o5000), 0o4000: code("INDEX", 0o17)}
    WAITING = (
        {"z": 0, "q": 1}, {"z": 1, "l": 1, "q": 2}, {"z": 5, "q": 6},
        {"z": 0o5000, "staying": JUMP}, {"z": 0o5000, "q": 0o5001, "staying": {0o5000: code("TC", 0o5000)}},
        {"z": 0o2000, "fb": 3, "staying": {3072: code("TCF", 0o2000)}},
        {"z": 0o7777, "staying": {0o7777: code("TCF", 0o7777)}},
        {"z": 0o7777, "staying": {0o7777: code("TC", 0o7777)}},
        {"z": 0o7776, "q": 0o7777, "staying": {0o7776: code("TC", 0o7776)}},
        {"z": 0o5000, "staying": JUMP, "asked": 7, "barred": True},
        {"z": 0o5000, "staying": JUMP, "asked": 7, "serving": True},
        {"z": 0o5000, "staying": JUMP, "asked": 7, "a": UP},
    )
    GOING_ON = (
        {}, {"z": 0}, {"z": 2, "q": 2}, {"z": 3, "q": 4}, {"z": 6, "eb": 6, "q": 7}, {"z": 7, "q": 0o10},
        {"z": 0, "a": 4}, {"z": 0, "a": 4, "q": 1}, {"z": 0, "a": UP}, {"z": 0o1402, "q": 0o1402},
        {"z": 0o1402, "q": 0o1403}, {"z": 0o5000, "staying": {0o5000: code("TC", 0o5000)}},
        {"z": 0o5000, "q": 0o5001, "staying": {0o5000: code("TC", 0o5001)}},
        {"z": 0o5000, "staying": {0o5000: code("TCF", 0o5001)}},
        {"z": 0o7777, "q": 0o10000, "staying": {0o7777: code("TC", 0o7777)}},
        {"z": 0o7777, "q": 0o7777, "staying": {0o7777: code("TC", 0o7777)}},
        {"z": 0o5000, "q": 0o105001, "staying": {0o5000: code("TC", 0o5000)}},
        {"z": 0o100, "changing": {0o100: code("CCS", 0o100)}}, {"z": 0o1777, "changing": {0o377: code("CCS", 0o1777)}},
        {"z": 0o100, "changing": {0o100: code("INDEX", 0o100)}},
        {"z": 0o2000, "staying": {0: code("DAS", 0o2000)}}, {"z": 0o5000, "staying": {0o5000: code("CA", 0o5000)}},
        {"z": 0o5000, "staying": JUMP, "asked": 1}, {"z": 0o5000, "staying": JUMP, "extended": True},
        {"z": 0o5000, "staying": JUMP, "index_word": 5}, {"z": 0o5000, "staying": JUMP, "index_word": 0o77777},
        {"z": 0o5000, "staying": JUMP, "instead": code("CA", 5)}, {"z": 0o5000, "staying": JUMP, "instead": 0},
        {"z": 0o1005, "l": 0o1005, "changing": {0o1005: code("LXCH", 5)}},
        {"z": 0o5000, "a": 0o5000, "staying": {0o5000: code("XCH", 5), 0o5001: code("TCF", 0o5000)}},
        {"z": 0o5000, "a": 0o5000, "staying": {0o5000: code("TS", 5)}},
    )

    def test_runs_by_turns(self):
        for state in self.WAITING + self.GOING_ON:
            for turns in (1, 2, 3, 50):
                machine = made(**state)
                other = made(**state)
                run(machine, turns)
                for turn in range(turns):
                    take_turn(other)
                self.same(machine, other, (state, turns))

    def test_a_machine_that_stands_still_is_not_changed(self):
        for state in self.WAITING:
            machine = made(**state)
            self.assertTrue(stands_still(machine), state)
            take_turn(machine)
            self.same(machine, made(**state), state)

    def test_jumps_in_place_at_every_place(self):
        machine = made()
        for place in range(0o4000, 0o10000):
            for word in (place, 0o10000 + place):
                for q in (0, place, place + 1, 0o10000, place + 0o100001):
                    put(machine, {"z": place, "q": q, "staying": {place: word}})
                    still = stands_still(machine)
                    take_turn(machine)
                    self.assertEqual(still, (machine.z, machine.q) == (place, q), (oct(word), oct(q)))

    def test_a_tc_in_place_behind_a_jump_there(self):
        # The turn ahead leads to the same place, so that the run looks there whether it stands still.
        for q in (0, 1, 0o7777, 0o10000, 0o100000):
            for turns in (1, 2, 3, 1000):
                machine = made(z=0o7777, q=q, index_word=0o10000, staying={0o7777: code("TC", 0o7777)})
                run(machine, turns)
                self.same(machine, made(z=0o7777, q=q if turns == 1 else 0, staying={0o7777: code("TC", 0o7777)}))

    def test_all_others_go_on(self):
        for state in self.GOING_ON:
            self.assertFalse(stands_still(made(**state)), state)

    def test_the_longest_run_of_a_waiting_machine(self):
        for state in self.WAITING:
            machine = made(**state)
            run(machine, 10000000)
            self.same(machine, made(**state), state)
