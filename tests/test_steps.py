"""Point 4: what each step does, alone and within others."""

import unittest

from pausewright.walking import played
from tests.trees import NO_PART, SHUT, alone, ask, end, fault, give, num, say, slot, throw

LEAVE = ("leave",)


def attempt(body, caught=None, last=()):
    return ("try", tuple(body), caught, tuple(last))


def told_of(steps, *deeds, numbers=()):
    return played(alone(*steps, params=len(numbers)), 0, numbers, [ask(), *deeds])


class Steps(unittest.TestCase):
    def tells(self, steps, deeds, *told, numbers=()):
        """Behind the first ask, these deeds are told so."""
        self.assertEqual(told_of(steps, *deeds, numbers=numbers), list(told))


class Give(Steps):
    def test_asked_on_the_number_is_kept(self):
        self.tells(
            [give(5, 1), ("say", slot(1)), give(6, 1), ("say", slot(1))], [ask(77), ask(999)],
            ((), ("gift", 5)), ((77,), ("gift", 6)), ((999,), ("end", 0)),
        )

    def test_asked_on_the_number_is_not_kept(self):
        self.tells(
            [("set", 0, num(3)), give(5, None), ("say", slot(0)), ("say", slot(1))], [ask(77)],
            ((), ("gift", 5)), ((3, 0), ("end", 0)),
        )

    def test_the_gift_is_reckoned_when_it_is_met(self):
        self.tells(
            [give(1, 0), ("give", ("plus", slot(0), num(1)), 0), ("give", ("times", slot(0), num(3)), 0)],
            [ask(999), ask(5), ask(1)],
            ((), ("gift", 1)), ((), ("gift", 0)), ((), ("gift", 15)), ((), ("end", 0)),
        )

    def test_a_throw_comes_here(self):
        self.tells([give(5, 0), say(1)], [throw(8)], ((), ("gift", 5)), ((), ("fault", 8)))

    def test_a_throw_is_caught_and_the_slot_is_left(self):
        steps = [("set", 0, num(3)), attempt([give(5, 0), say(1)], (1, (say(2),))), ("say", slot(0)), ("say", slot(1))]
        self.tells(steps, [throw(8)], ((), ("gift", 5)), ((2, 3, 8), ("end", 0)))

    def test_the_shutting_comes_here(self):
        self.tells([give(5, 0), say(1)], [SHUT], ((), ("gift", 5)), ((), ("shut",)))

    def test_the_shutting_is_not_caught(self):
        self.tells([attempt([give(5, 0)], (0, (say(1),)), [say(2)])], [SHUT], ((), ("gift", 5)), ((2,), ("shut",)))

    def test_a_gift_that_can_not_be_reckoned(self):
        self.tells([say(1), ("give", NO_PART, 0), say(2)], [ask(1)], ((1,), ("fault", 0)), ((), ("over",)))


class If(Steps):
    def test_the_first_body_where_it_is_not_0(self):
        for n in (1, 2, 10, 999):
            self.tells([("if", num(n), (say(1), say(2)), (say(3),)), say(4)], [], ((1, 2, 4), ("end", 0)))

    def test_the_second_body_where_it_is_0(self):
        for e in (num(0), slot(0), ("plus", num(999), num(1))):
            self.tells([("if", e, (say(1), say(2)), (say(3),)), say(4)], [], ((3, 4), ("end", 0)))

    def test_what_comes_out_of_a_body(self):
        self.tells([("if", num(1), (end(7),), ()), say(4)], [], ((), ("end", 7)))
        self.tells([("if", num(0), (), (fault(7),)), say(4)], [], ((), ("fault", 7)))
        self.tells([("if", NO_PART, (say(1),), (say(2),))], [], ((), ("fault", 0)))
        self.tells([("if", num(1), (give(3, 0),), ()), ("say", slot(0))], [ask(9)],
                   ((), ("gift", 3)), ((9,), ("end", 0)))

    def test_it_is_reckoned_once(self):
        self.tells([("if", ("same", slot(0), num(0)), (("set", 0, num(1)), say(1)), (say(2),))], [],
                   ((1,), ("end", 0)))


class Round(Steps):
    def times(self, e, numbers=()):
        [(words, outcome)] = told_of([("round", e, (say(1),)), say(2)], numbers=numbers)
        self.assertEqual((words[-1], outcome), (2, ("end", 0)))
        return len(words) - 1

    def test_how_often(self):
        for n in (0, 1, 2, 9, 10, 11, 19, 20, 990, 998, 999):
            self.assertEqual(self.times(num(n)), n % 10)
            self.assertEqual(self.times(slot(0), (n,)), n % 10)

    def test_it_is_reckoned_once(self):
        body = (("set", 0, ("plus", slot(0), num(1))), ("say", slot(0)))
        self.tells([("set", 0, num(3)), ("round", slot(0), body)], [], ((4, 5, 6), ("end", 0)))
        self.tells([("round", num(3), (("set", 0, num(0)), say(1)))], [], ((1, 1, 1), ("end", 0)))
        down = ("round", slot(0), (("set", 0, num(0)), say(1)))
        self.tells([("set", 0, num(3)), down], [], ((1, 1, 1), ("end", 0)))

    def test_a_fault_in_its_reckoning(self):
        self.tells([("round", NO_PART, (say(1),))], [], ((), ("fault", 0)))

    def test_leave(self):
        steps = [("round", num(5), (say(1), LEAVE, say(2))), say(3)]
        self.tells(steps, [], ((1, 3), ("end", 0)))

    def test_leave_at_a_later_time(self):
        once = (("set", 0, ("plus", slot(0), num(1))), ("if", ("same", slot(0), num(3)), (LEAVE,), ()), ("say", slot(0)))
        self.tells([("round", num(9), once), say(7)], [], ((1, 2, 7), ("end", 0)))

    def test_leave_ends_the_innermost_round_alone(self):
        steps = [("round", num(2), (say(1), ("round", num(3), (say(2), LEAVE)), say(3))), say(4)]
        self.tells(steps, [], ((1, 2, 3, 1, 2, 3, 4), ("end", 0)))

    def test_leave_behind_an_inner_round(self):
        steps = [("round", num(2), (("round", num(2), (say(1),)), LEAVE, say(2))), say(3)]
        self.tells(steps, [], ((1, 1, 3), ("end", 0)))

    def test_gifts_within(self):
        steps = [("round", num(2), (("give", slot(0), 0),)), ("say", slot(0))]
        self.tells(steps, [ask(4), ask(5)], ((), ("gift", 0)), ((), ("gift", 4)), ((5,), ("end", 0)))

    def test_other_things_come_out(self):
        for step, outcome in ((fault(4), ("fault", 4)), (end(4), ("end", 4))):
            self.tells([("round", num(3), (say(1), step)), say(2)], [], ((1,), outcome))
        self.tells([("round", num(3), (give(1),)), say(2)], [SHUT], ((), ("gift", 1)), ((), ("shut",)))

    def test_rounds_within_a_round(self):
        steps = [("round", num(3), (("round", num(4), (say(1),)),))]
        self.tells(steps, [], ((1,) * 12, ("end", 0)))


class FaultAndEnd(Steps):
    def test_fault(self):
        for n in (0, 1, 999):
            self.tells([say(1), fault(n), say(2)], [], ((1,), ("fault", n)))
        self.tells([("fault", ("plus", num(2), num(3)))], [], ((), ("fault", 5)))
        self.tells([("fault", NO_PART)], [], ((), ("fault", 0)))

    def test_end(self):
        for n in (0, 1, 999):
            self.tells([say(1), end(n), say(2)], [], ((1,), ("end", n)))
        self.tells([("end", ("less", num(2), num(3)))], [], ((), ("end", 999)))
        self.tells([("end", NO_PART)], [], ((), ("fault", 0)))

    def test_a_body_that_is_over_ends_with_0(self):
        self.tells([], [], ((), ("end", 0)))
        self.tells([("set", 0, num(5))], [], ((), ("end", 0)))

    def test_a_fault_in_say_and_set(self):
        self.tells([("say", NO_PART), say(1)], [], ((), ("fault", 0)))
        self.tells([("set", 0, NO_PART), say(1)], [], ((), ("fault", 0)))


class Hand(unittest.TestCase):
    def tells(self, first, second, deeds, *told, params=0, work=0, numbers=()):
        program = [(0, 4, tuple(first)), (params, 4, tuple(second))]
        self.assertEqual(played(program, work, numbers, [ask(), *deeds]), list(told))

    def test_the_other_work_stands_here(self):
        self.tells(
            [say(1), ("hand", 1, (), None), say(2)], [say(3), give(4), say(5)], [ask(0)],
            ((1, 3), ("gift", 4)), ((5, 2), ("end", 0)),
        )

    def test_args_in_their_order(self):
        steps = [("set", 0, num(7)), ("hand", 1, (slot(0), ("plus", slot(0), num(1))), 0)]
        self.tells(steps, [("say", slot(k)) for k in range(4)], [], ((7, 8, 0, 0), ("end", 0)), params=2)

    def test_slots_of_its_own(self):
        steps = [("set", 0, num(7)), ("set", 1, num(8)), ("hand", 1, (), None), ("say", slot(0)), ("say", slot(1))]
        other = [("say", slot(0)), ("set", 0, num(1)), ("set", 1, num(2))]
        self.tells(steps, other, [], ((0, 7, 8), ("end", 0)))

    def test_slots_are_new_at_each_handing(self):
        other = [("say", slot(1)), ("set", 1, num(2)), ("say", slot(0)), ("set", 0, num(3))]
        steps = [("round", num(2), (("hand", 1, (num(9),), None),))]
        self.tells(steps, other, [], ((0, 9, 0, 9), ("end", 0)), params=1)

    def test_the_number_of_its_end(self):
        for k, kept in ((2, 55), (None, 6)):
            steps = [("set", 2, num(6)), ("hand", 1, (), k), ("say", slot(2))]
            self.tells(steps, [end(55), say(1)], [], ((kept,), ("end", 0)))

    def test_a_body_that_is_over_gives_0(self):
        self.tells([("set", 0, num(6)), ("hand", 1, (), 0), ("say", slot(0))], [say(1)], [], ((1, 0), ("end", 0)))

    def test_an_end_is_of_the_other_work_alone(self):
        self.tells([("hand", 1, (), 0), say(1), end(3)], [end(5)], [], ((1,), ("end", 3)))
        self.tells([attempt([("hand", 1, (), 0), say(1)], None, [say(2)]), say(3)], [end(5)], [],
                   ((1, 2, 3), ("end", 0)))

    def test_a_fault_comes_here(self):
        self.tells([("hand", 1, (), 0), say(1)], [say(2), fault(5)], [], ((2,), ("fault", 5)))
        steps = [("set", 0, num(6)), attempt([("hand", 1, (), 0), say(1)], (1, (("say", slot(1)), ("say", slot(0)))))]
        self.tells(steps, [say(2), fault(5)], [], ((2, 5, 6), ("end", 0)))

    def test_a_fault_in_an_arg_comes_here(self):
        for args in ((NO_PART, num(1)), (num(1), NO_PART)):
            self.tells([("hand", 1, args, 0), say(1)], [say(2)], [], ((), ("fault", 0)), params=2)

    def test_a_fault_thrown_into_it(self):
        self.tells([attempt([("hand", 1, (), 0)], (0, (("say", slot(0)),)))], [attempt([give(1)], None, [say(8)])],
                   [throw(7)], ((), ("gift", 1)), ((8, 7), ("end", 0)))

    def test_the_shutting_comes_here(self):
        self.tells([attempt([("hand", 1, (), 0), say(1)], (0, ()), [say(2)]), say(3)], [give(1), say(4)],
                   [SHUT], ((), ("gift", 1)), ((2,), ("shut",)))

    def test_the_shutting_may_be_ended_within(self):
        # The end takes the place of the shutting, and the first work goes on.
        self.tells([("hand", 1, (), 0), ("say", slot(0))], [attempt([give(1)], None, [end(5)])],
                   [SHUT, ask(1)], ((), ("gift", 1)), ((5,), ("shut",)), ((), ("over",)))
        self.tells([("hand", 1, (), 0), give(2)], [attempt([give(1)], None, [end(5)])],
                   [SHUT, ask(1)], ((), ("gift", 1)), ((), ("stubborn",)), ((), ("over",)))

    def test_the_innermost_of_three(self):
        program = [
            (0, 1, (("hand", 1, (num(5),), 0), ("say", slot(0)))),
            (1, 2, (("hand", 2, (slot(0), num(2)), 1), ("end", ("plus", slot(0), slot(1))))),
            (2, 3, (("give", ("times", slot(0), slot(1)), 2), ("end", slot(2)))),
        ]
        self.assertEqual(
            played(program, 0, (), [ask(), ask(30)]), [((), ("gift", 10)), ((35,), ("end", 0))],
        )
        self.assertEqual(
            played(program, 2, (20, 20), [ask(), ask(30)]), [((), ("gift", 400)), ((), ("end", 30))],
        )

    def test_a_round_is_not_left_by_what_is_handed_to(self):
        steps = [("round", num(2), (("hand", 1, (), None), say(1)))]
        self.tells(steps, [("round", num(2), (LEAVE,)), say(2)], [], ((2, 1, 2, 1), ("end", 0)))


class Try(Steps):
    def test_nothing_comes_out(self):
        self.tells([attempt([say(1)], (0, (say(2),)), [say(3)]), say(4)], [], ((1, 3, 4), ("end", 0)))
        self.tells([attempt([say(1)]), say(4)], [], ((1, 4), ("end", 0)))
        self.tells([attempt([], (0, ()))], [], ((), ("end", 0)))

    def test_a_fault_is_caught(self):
        steps = [attempt([say(1), fault(9), say(2)], (1, (("say", slot(1)),)), [say(3)]), say(4)]
        self.tells(steps, [], ((1, 9, 3, 4), ("end", 0)))

    def test_a_fault_is_caught_without_a_slot(self):
        steps = [("set", 0, num(5)), attempt([fault(9)], (None, (say(2),))), ("say", slot(0))]
        self.tells(steps, [], ((2, 5), ("end", 0)))

    def test_a_fault_by_a_reckoning_is_caught(self):
        for step in (("say", NO_PART), ("set", 0, NO_PART), ("give", NO_PART, 0), ("if", NO_PART, (), ()),
                     ("round", NO_PART, ()), ("fault", NO_PART), ("end", NO_PART)):
            steps = [("set", 0, num(5)), attempt([step, say(8)], (0, (("say", slot(0)),))), say(4)]
            self.tells(steps, [], ((0, 4), ("end", 0)))

    def test_a_fault_is_not_caught(self):
        self.tells([attempt([fault(9), say(1)], None, [say(3)]), say(4)], [], ((3,), ("fault", 9)))

    def test_a_fault_in_caught_comes_out_behind_last(self):
        self.tells([attempt([fault(9)], (0, (say(1), fault(8), say(2))), [say(3)]), say(4)], [],
                   ((1, 3), ("fault", 8)))
        self.tells([attempt([fault(9)], (0, (("say", NO_PART),)), [say(3)]), say(4)], [], ((3,), ("fault", 0)))

    def test_a_fault_in_last_is_not_caught_by_its_try(self):
        self.tells([attempt([say(1)], (0, (say(2),)), [fault(7), say(3)]), say(4)], [], ((1,), ("fault", 7)))

    def test_a_fault_in_caught_and_last_is_caught_further_out(self):
        inner = attempt([fault(1)], (0, (fault(2),)), [say(5)])
        self.tells([attempt([inner], (0, (("say", slot(0)),)))], [], ((5, 2), ("end", 0)))
        inner = attempt([fault(1)], (0, (fault(2),)), [fault(3)])
        self.tells([attempt([inner], (0, (("say", slot(0)),)))], [], ((3,), ("end", 0)))

    def test_last_where_nothing_comes_out_of_it(self):
        last = [say(3), ("set", 3, num(1))]
        self.tells([attempt([end(5), say(1)], (0, (say(2),)), last), say(4)], [], ((3,), ("end", 5)))
        self.tells([attempt([fault(6)], (0, (end(5), say(2))), last), say(4)], [], ((3,), ("end", 5)))
        self.tells([attempt([fault(6)], None, last), say(4)], [], ((3,), ("fault", 6)))
        self.tells([attempt([], None, last), say(4)], [], ((3, 4), ("end", 0)))
        self.tells([("round", num(3), (attempt([LEAVE], None, last), say(1))), say(4)], [], ((3, 4), ("end", 0)))
        self.tells([("round", num(3), (attempt([fault(1)], (0, (LEAVE,)), last), say(1))), say(4)], [],
                   ((3, 4), ("end", 0)))
        self.tells([attempt([give(1)], (0, ()), last), say(4)], [SHUT], ((), ("gift", 1)), ((3,), ("shut",)))
        self.tells([attempt([fault(1)], (0, (give(1),)), last), say(4)], [SHUT],
                   ((), ("gift", 1)), ((3,), ("shut",)))

    def test_what_comes_out_of_last_goes_on_in_its_place(self):
        comings = ([], [fault(1)], [end(2)], [LEAVE], [("say", NO_PART)])
        lasts = (
            ([say(3), fault(21), say(4)], (3,), ("fault", 21)), ([say(3), end(22)], (3,), ("end", 22)),
            ([say(3), LEAVE], (3, 6), ("end", 0)), ([("say", NO_PART)], (), ("fault", 0)),
        )
        for coming in comings:
            for last, words, outcome in lasts:
                steps = [("round", num(3), (attempt(coming, None, last), say(5))), say(6)]
                self.tells(steps, [], (words, outcome))
                steps = [("round", num(3), (attempt([fault(9)], (0, tuple(coming)), last), say(5))), say(6)]
                self.tells(steps, [], (words, outcome))

    def test_what_comes_out_of_last_in_place_of_the_shutting(self):
        for last, told in (
            ([say(3), fault(21)], ((3,), ("fault", 21))), ([say(3), end(22)], ((3,), ("shut",))),
            ([say(3), LEAVE], ((3, 6), ("shut",))), ([say(3), give(8)], ((3,), ("stubborn",))),
        ):
            steps = [("round", num(3), (attempt([give(1)], (0, ()), last), say(5))), say(6)]
            self.tells(steps, [SHUT, ask(1)], ((), ("gift", 1)), told, ((), ("over",)))

    def test_a_fault_in_last_in_place_of_the_shutting_is_caught_further_out(self):
        steps = [attempt([attempt([give(1)], None, [fault(7)])], (0, (("say", slot(0)),))), say(6)]
        self.tells(steps, [SHUT], ((), ("gift", 1)), ((7, 6), ("shut",)))
        self.tells([*steps, give(1)], [SHUT], ((), ("gift", 1)), ((7, 6), ("stubborn",)))

    def test_what_is_set_in_last_is_behind_what_was_reckoned(self):
        steps = [("set", 0, num(5)), attempt([("end", slot(0))], None, [("set", 0, num(6)), ("say", slot(0))])]
        self.tells(steps, [], ((6,), ("end", 5)))

    def test_gifts_in_the_first_body(self):
        steps = [attempt([give(1, 0), ("say", slot(0))], (1, (("say", slot(1)),)), [say(3)])]
        self.tells(steps, [ask(7)], ((), ("gift", 1)), ((7, 3), ("end", 0)))
        self.tells(steps, [throw(8)], ((), ("gift", 1)), ((8, 3), ("end", 0)))
        self.tells(steps, [SHUT], ((), ("gift", 1)), ((3,), ("shut",)))

    def test_gifts_in_caught(self):
        steps = [attempt([fault(9)], (1, (give(1, 0), ("say", slot(0)))), [say(3)])]
        self.tells(steps, [ask(7)], ((), ("gift", 1)), ((7, 3), ("end", 0)))
        self.tells(steps, [throw(8)], ((), ("gift", 1)), ((3,), ("fault", 8)))
        self.tells(steps, [SHUT], ((), ("gift", 1)), ((3,), ("shut",)))

    def test_gifts_in_last(self):
        for coming, outcome in (([], ("end", 0)), ([fault(9)], ("fault", 9)), ([end(4)], ("end", 4))):
            steps = [attempt(coming, None, [give(1, 0), ("say", slot(0))])]
            self.tells(steps, [ask(7)], ((), ("gift", 1)), ((7,), outcome))
            self.tells(steps, [throw(8)], ((), ("gift", 1)), ((), ("fault", 8)))
            self.tells(steps, [SHUT], ((), ("gift", 1)), ((), ("shut",)))

    def test_a_leaving_goes_on_behind_a_gift_in_last(self):
        steps = [("round", num(3), (attempt([LEAVE], None, [give(1, 0)]), say(1))), ("say", slot(0))]
        self.tells(steps, [ask(7)], ((), ("gift", 1)), ((7,), ("end", 0)))

    def test_last_of_each_try_from_the_innermost_on(self):
        steps = [attempt([attempt([attempt([give(1)], None, [say(1)])], None, [say(2)])], None, [say(3)])]
        self.tells(steps, [SHUT], ((), ("gift", 1)), ((1, 2, 3), ("shut",)))
        self.tells(steps, [throw(5)], ((), ("gift", 1)), ((1, 2, 3), ("fault", 5)))
        self.tells(steps, [ask(5)], ((), ("gift", 1)), ((1, 2, 3), ("end", 0)))

    def test_a_try_in_last(self):
        steps = [attempt([fault(1)], None, [attempt([fault(2)], (0, (("say", slot(0)),)))])]
        self.tells(steps, [], ((2,), ("fault", 1)))

    def test_a_leaving_out_of_an_inner_round_in_last_is_none_of_it(self):
        steps = [attempt([end(5)], None, [("round", num(2), (LEAVE,)), say(1)])]
        self.tells(steps, [], ((1,), ("end", 5)))

    def test_an_end_in_last_takes_the_place_of_a_fault_from_further_in(self):
        steps = [attempt([("round", num(2), (fault(3),))], (0, (fault(4),)), [end(5)]), say(1)]
        self.tells(steps, [], ((), ("end", 5)))


if __name__ == "__main__":
    unittest.main()
