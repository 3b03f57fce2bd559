"""Points 2 to 5: what a program is, how many steps a work has, and what is refused as none."""

import unittest

from pausewright.errors import BadAsk, BadWork
from pausewright.making import made, matched, most_rooms
from pausewright.notes import written
from pausewright.walking import played
from pausewright.works import need_program, steps_in
from tests.trees import SHUT, alone, deep_reckoning, end, fault, give, num, say, slot, within

PLACES = (
    need_program,
    lambda program: steps_in(program, 0),
    # A work that there isn't: BadWork is told ahead of BadAsk.
    lambda program: steps_in(program, 9),
    lambda program: played(program, 0, (), []),
    lambda program: played(program, 0, (), [("ask", 1)]),
    lambda program: played(program, -1, (1000,), [("give", 1), SHUT]),
    made,
    lambda program: most_rooms(program, 0),
    lambda program: most_rooms(program, 9),
    lambda program: matched(program, 0, 0),
    lambda program: matched(program, 9, -1),
    written,
)


class Programs(unittest.TestCase):
    def refused(self, program, work=0):
        for place in PLACES:
            with self.assertRaises(BadWork) as caught:
                place(program)
            self.assertEqual(caught.exception.work, work)
            self.assertIs(type(caught.exception.work), int)

    def taken(self, program):
        self.assertIsNone(need_program(program))

    def refused_step(self, step, params=0, slots=2):
        """Refused at each place in a body, and within each kind of step."""
        self.refused(alone(step, params=params, slots=slots))
        self.refused(alone(say(1), step, say(2), params=params, slots=slots))
        bodies = (step,)
        for around in (
            ("if", num(1), bodies, ()),
            ("if", num(1), (), bodies),
            ("try", bodies, None, ()),
            ("try", (), (0, bodies), ()),
            ("try", (), (None, bodies), ()),
            ("try", (), None, bodies),
            ("try", (), (0, ()), bodies),
        ):
            self.refused(alone(around, params=params, slots=slots))
        if step[0] != "leave":
            self.refused(alone(("round", num(1), bodies), params=params, slots=slots))

    def taken_step(self, step, slots=2):
        self.taken(alone(step, slots=slots))

    def refused_reckoning(self, e):
        for step in (
            ("set", 0, e), ("say", e), ("give", e, None), ("if", e, (), ()), ("round", e, ()),
            ("fault", e), ("end", e),
        ):
            self.refused_step(step)
        for args in ((e, num(1)), (num(1), e)):
            self.refused([(0, 2, (("hand", 1, args, None),)), (2, 2, ())])


class Counts(Programs):
    def test_counts_of_works(self):
        work = (0, 1, ())
        for many in (1, 2, 3, 4):
            self.taken([work] * many)
        for many in (0, 5, 6, 40):
            self.refused([work] * many)

    def test_another_count_of_works_is_told_as_0_whatever_the_works_are(self):
        self.refused([(0, 1, ())] * 4 + [(3, 1, ())], 0)
        self.refused([(0, 1, ()), (3, 1, ())] + [(0, 1, ())] * 3, 0)

    def test_counts_of_slots(self):
        for slots in (1, 2, 3, 4):
            self.taken([(0, slots, ())])
        for slots in (0, -1, 5, 1000, None, True):
            self.refused([(0, slots, ())])

    def test_counts_of_params(self):
        for params, slots in ((0, 1), (1, 1), (0, 4), (1, 4), (2, 2), (2, 4)):
            self.taken([(params, slots, ())])
        for params, slots in ((3, 3), (3, 4), (-1, 1), (2, 1), (4, 4), (None, 1), (True, 1), (1, 0)):
            self.refused([(params, slots, ())])

    def test_counts_of_steps(self):
        self.taken(alone(*[say(1)] * 40))
        self.refused(alone(*[say(1)] * 41))
        self.refused(alone(*[say(1)] * 500))

    def test_steps_within_others_are_counted_too(self):
        for many, check in ((9, self.taken), (10, self.refused)):
            # One try, and an if and a round in it: 3 + 27 + many steps.
            inner = ("if", num(1), tuple([say(1)] * 9), tuple([say(2)] * 9))
            going = ("round", num(1), tuple([say(3)] * 9))
            check(alone(("try", (inner,), (None, (going,)), tuple([say(4)] * many)), say(5)))

    def test_each_work_has_steps_of_its_own(self):
        self.taken([(0, 1, tuple([say(1)] * 40))] * 4)

    def test_steps_within_others(self):
        for many in range(7):
            self.taken(alone(within(say(1), many)))
        for many in (7, 8, 30, 39, 500):
            self.refused(alone(within(say(1), many)))

    def test_every_kind_of_step_counts_as_one_around(self):
        for around in (
            lambda step: ("if", num(1), (), (step,)),
            lambda step: ("round", num(1), (step,)),
            lambda step: ("try", (step,), None, ()),
            lambda step: ("try", (), (None, (step,)), ()),
            lambda step: ("try", (), None, (step,)),
        ):
            self.taken(alone(around(within(say(1), 5))))
            self.refused(alone(around(within(say(1), 6))))
            self.taken(alone(within(around(say(1)), 5)))
            self.refused(alone(within(around(say(1)), 6)))

    def test_an_empty_body_within_six_others_has_no_step_in_it(self):
        self.taken(alone(within(("if", num(1), (), ()), 6)))

    def test_reckonings_within_one_another(self):
        for many in (0, 1, 2, 3):
            self.taken(alone(("say", deep_reckoning(many))))
        self.taken(alone(("say", ("same", num(1), deep_reckoning(2)))))
        e = deep_reckoning(3)
        for step in (
            ("set", 0, e), ("give", e, None), ("if", e, (), ()), ("round", e, ()), ("fault", e), ("end", e),
            within(("say", e), 6),
        ):
            self.taken_step(step)
        self.taken([(0, 1, (("hand", 1, (e, e), None),)), (2, 2, ())])
        self.taken(alone(("say", ("part", deep_reckoning(2), deep_reckoning(2)))))
        for many in (4, 5, 100):
            self.refused_reckoning(deep_reckoning(many))
            self.refused_reckoning(("same", num(1), deep_reckoning(many - 1)))


class Words(Programs):
    def test_words_that_there_are_not(self):
        for step in (
            ("go", num(1)), ("", num(1)), ("Say", num(1)), ("num", 1), ("plus", num(1), num(1)),
            ("else", num(1), (), ()), ("caught", 0, ()), ("last", ()), ("shut",), ("count", 0, num(1)),
        ):
            self.refused_step(step)

    def test_more_or_fewer_parts(self):
        e = num(1)
        whole = (
            ("set", 0, e), ("say", e), ("give", e, 0), ("hand", 1, (), 0), ("if", e, (), ()),
            ("round", e, ()), ("fault", e), ("end", e), ("try", (), None, ()), ("try", (), (0, ()), ()),
        )
        for step in whole:
            self.taken([(0, 2, (step,)), (0, 1, ())])
            for other in (step[:-1], step[:1], step + (e,), step + (None,), step + ((),)):
                self.refused([(0, 2, (other,)), (0, 1, ())])
        for step in (("leave", e), ("leave", None), ("leave", ())):
            self.refused(alone(("round", e, (step,))))

    def test_more_or_fewer_parts_of_caught(self):
        for caught in ((), (0,), (0, (), ()), (None,), ((),)):
            self.refused(alone(("try", (), caught, ())))

    def test_bodies_and_args_that_are_none(self):
        e = num(1)
        for step in (
            ("if", e, None, ()), ("if", e, (), None), ("round", e, None), ("try", None, None, ()),
            ("try", (), None, None), ("try", (), (0, None), ()),
        ):
            self.refused_step(step)
        self.refused([(0, 1, (("hand", 1, None, 0),)), (0, 1, ())])

    def test_reckonings_that_are_none(self):
        for e in (
            ("num",), ("num", 1, 1), ("num", -1), ("num", 1000), ("num", None), ("num", True), ("num", False),
            ("slot",), ("slot", 0, 0), ("slot", -1), ("slot", 2), ("slot", None), ("slot", True),
            ("plus",), ("plus", num(1)), ("plus", num(1), num(1), num(1)), ("minus", num(1), num(1)),
            ("say", num(1)), ("number", 1), ("", 1),
        ):
            self.refused_reckoning(e)
            self.refused_reckoning(("plus", e, num(1)))
            self.refused_reckoning(("same", num(1), e))

    def test_each_word_of_a_reckoning(self):
        for word in ("plus", "less", "times", "part", "below", "same"):
            self.taken_step(("say", (word, num(0), slot(1))))
            self.refused_reckoning((word, num(0)))
            self.refused_reckoning((word, num(0), num(0), num(0)))
        for e in (num(0), num(999), slot(0), slot(1)):
            self.taken_step(("say", e))


class Slots(Programs):
    def test_slots_for_what_comes(self):
        for k in (0, 1):
            for step in (("set", k, num(1)), give(1, k), ("try", (), (k, ()), ())):
                self.taken_step(step)
        for k in (2, 3, 4, -1, 999, True, False):
            for step in (("set", k, num(1)), give(1, k), ("try", (), (k, ()), ())):
                self.refused_step(step)
            self.refused([(0, 2, (("hand", 1, (), k),)), (0, 4, ())])

    def test_none_where_what_comes_is_not_kept(self):
        self.taken_step(give(1, None))
        self.taken_step(("try", (), (None, ()), ()))
        self.taken([(0, 2, (("hand", 1, (), None),)), (0, 1, ())])
        self.refused_step(("set", None, num(1)))

    def test_the_slots_are_those_of_the_work(self):
        self.refused([(0, 1, (("set", 1, num(1)),)), (0, 4, ())])
        self.refused([(0, 4, (("set", 1, num(1)),)), (0, 1, (("say", slot(1)),))], 1)


class Leaving(Programs):
    def test_a_leaving_without_a_round(self):
        self.refused_step(("leave",))

    def test_a_leaving_behind_a_round_and_beside_one(self):
        self.refused(alone(("round", num(1), ()), ("leave",)))
        self.refused(alone(("if", num(1), (("round", num(1), (say(1),)), ("leave",)), ())))

    def test_a_leaving_in_a_round(self):
        leave = ("leave",)
        for step in (
            leave, ("if", num(1), (leave,), ()), ("if", num(1), (), (leave,)), ("try", (leave,), None, ()),
            ("try", (), (0, (leave,)), ()), ("try", (), None, (leave,)), ("round", num(1), (leave,)),
            within(leave, 5),
        ):
            self.taken_step(("round", num(1), (step,)))
        self.taken_step(("if", num(1), (("round", num(1), (leave,)),), ()))

    def test_a_round_of_another_work_does_not_count(self):
        program = [(0, 1, (("round", num(2), (("hand", 1, (), None),)),)), (0, 1, (("leave",),))]
        self.refused(program, 1)


class Handing(Programs):
    def test_only_to_a_later_work(self):
        for w in (0, -1, -2, 3, 4, 999, None, True):
            hand = ("hand", w, (), None)
            self.refused([(0, 1, (hand,)), (0, 1, ()), (0, 1, ())])
        for w in (1, 2):
            self.taken([(0, 1, (("hand", w, (), None),)), (0, 1, ()), (0, 1, ())])
        for w in (0, 1, -1):
            self.refused([(0, 1, ()), (0, 1, (("hand", w, (), None),)), (0, 1, ())], 1)
        for w in (0, 1, 2, 3, -1):
            self.refused([(0, 1, ()), (0, 1, ()), (0, 1, (("hand", w, (), None),))], 2)

    def test_only_with_as_many_args(self):
        for params in (0, 1, 2):
            for many in (0, 1, 2, 3):
                program = [(0, 1, (("hand", 1, tuple([num(1)] * many), 0),)), (params, 4, ())]
                if params == many:
                    self.taken(program)
                else:
                    self.refused(program)

    def test_a_handing_with_a_work_that_is_none(self):
        # It hands over as many as that work has params: the other work is the first that is none.
        self.refused([(0, 1, (("hand", 1, (num(1), num(1)), 0),)), (2, 1, ())], 1)
        self.refused([(0, 1, (("hand", 1, (num(1),), 0),)), (2, 1, ())], 0)


class FirstWork(Programs):
    def test_the_first_work_that_is_none_is_told(self):
        good, bad = (0, 1, (say(1),)), (0, 1, (("say", num(1000)),))
        for at in range(4):
            program = [good] * at + [bad] * (4 - at)
            self.refused(program, at)
            self.refused([good] * at + [bad] + [good] * (3 - at), at)

    def test_kinds_of_being_none_have_no_order_among_themselves(self):
        self.refused([(0, 1, (end(1000),)), (0, 9, ())], 0)
        self.refused([(0, 9, ()), (0, 1, (end(1000),))], 0)
        self.refused([(0, 1, ()), (0, 1, tuple([say(1)] * 41)), (3, 4, ())], 1)
        self.refused([(0, 1, ()), (0, 1, ()), (3, 4, ()), (0, 1, (("leave",),))], 2)


class StepsIn(unittest.TestCase):
    def test_steps_within_others_too(self):
        self.assertEqual(steps_in([(0, 1, ())], 0), 0)
        self.assertEqual(steps_in(alone(say(1), give(1), fault(1)), 0), 3)
        self.assertEqual(steps_in(alone(("if", num(1), (say(1), say(1)), (say(1),))), 0), 4)
        self.assertEqual(steps_in(alone(("round", num(9), (say(1), ("leave",)))), 0), 3)
        self.assertEqual(steps_in(alone(("try", (say(1),), None, (say(1), say(1)))), 0), 4)
        self.assertEqual(steps_in(alone(("try", (say(1),), (0, (say(1), say(2), say(3))), (say(1),))), 0), 6)
        self.assertEqual(steps_in(alone(within(say(1), 6)), 0), 7)
        self.assertEqual(steps_in(alone(*[say(1)] * 40), 0), 40)

    def test_a_work_by_its_number(self):
        program = [(0, 1, (("hand", 2, (), None), say(1))), (0, 1, (say(1),)), (0, 1, tuple([say(1)] * 7))]
        told = [steps_in(program, work) for work in range(3)]
        self.assertEqual(told, [2, 1, 7])
        self.assertTrue(all(type(many) is int for many in told))

    def test_a_work_that_there_is_not(self):
        for work in (-1, 2, 3, 999):
            with self.assertRaises(BadAsk):
                steps_in([(0, 1, ())] * 2, work)


if __name__ == "__main__":
    unittest.main()
