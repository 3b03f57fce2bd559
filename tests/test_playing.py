"""Points 1, 6 and 7: what played tells for each deed, and what can't be asked."""

import unittest
from copy import deepcopy

from pausewright.errors import BadAsk, BadWork
from pausewright.walking import played
from pausewright.works import need_program, steps_in
from tests.trees import SHUT, alone, ask, end, fault, give, num, say, slot, throw

ECHO = alone(("round", num(9), (("give", slot(0), 0), ("say", slot(0)))), params=1)
TRYING = alone(
    say(1), ("try", (give(2, 0), ("say", ("below", slot(0), num(5))), end(6)), (1, (("say", slot(1)), give(3))), (say(4),)),
)


def played_alone(steps, *deeds):
    return played(alone(*steps), 0, (), list(deeds))


class Deeds(unittest.TestCase):
    def test_no_deeds(self):
        self.assertEqual(played(ECHO, 0, (5,), []), [])

    def test_the_first_ask_begins_and_its_number_is_lost(self):
        for n in (0, 7, 999):
            self.assertEqual(played(ECHO, 0, (5,), [ask(n)]), [((), ("gift", 5))])
            self.assertEqual(played_alone([("say", slot(0)), end(3)], ask(n)), [((0,), ("end", 3))])

    def test_a_first_throw(self):
        told = played(ECHO, 0, (5,), [throw(8), ask(1), throw(9), SHUT, ask(2)])
        self.assertEqual(told, [
            ((), ("fault", 8)), ((), ("over",)), ((), ("fault", 9)), ((), ("shut",)), ((), ("over",)),
        ])

    def test_a_first_throw_is_not_caught(self):
        steps = [("try", (say(1), give(1)), (0, (say(2),)), (say(3),))]
        self.assertEqual(played_alone(steps, throw(8)), [((), ("fault", 8))])

    def test_a_first_shutting(self):
        told = played(TRYING, 0, (), [SHUT, ask(1), SHUT, throw(0)])
        self.assertEqual(told, [((), ("shut",)), ((), ("over",)), ((), ("shut",)), ((), ("fault", 0))])

    def test_a_gift_waits(self):
        told = played(ECHO, 0, (5,), [ask(0), ask(6), ask(7), ask(999)])
        self.assertEqual(told, [
            ((), ("gift", 5)), ((6,), ("gift", 6)), ((7,), ("gift", 7)), ((999,), ("gift", 999)),
        ])

    def test_ended(self):
        told = played(TRYING, 0, (), [ask(0), ask(4)])
        self.assertEqual(told, [((1,), ("gift", 2)), ((1, 4), ("end", 6))])

    def test_a_fault_that_is_caught_goes_on(self):
        told = played(TRYING, 0, (), [ask(0), throw(44), ask(0)])
        self.assertEqual(told, [((1,), ("gift", 2)), ((44,), ("gift", 3)), ((4,), ("end", 0))])

    def test_a_throw_may_end_or_come_out(self):
        told = played(TRYING, 0, (), [ask(0), throw(44), throw(45)])
        self.assertEqual(told[2], ((4,), ("fault", 45)))
        steps = [("try", (give(1),), (0, (("end", slot(0)),)), ())]
        self.assertEqual(played_alone(steps, ask(), throw(9))[1], ((), ("end", 9)))

    def test_shut_by_a_shutting_that_comes_out(self):
        self.assertEqual(played(TRYING, 0, (), [ask(0), SHUT])[1], ((4,), ("shut",)))
        self.assertEqual(played_alone([give(1)], ask(), SHUT)[1], ((), ("shut",)))

    def test_shut_by_a_work_that_ends_then(self):
        for last in (end(0), end(7)):
            self.assertEqual(
                played_alone([("try", (give(1),), None, (say(5), last))], ask(), SHUT)[1], ((5,), ("shut",)),
            )

    def test_a_fault_by_a_shutting(self):
        steps = [("try", (give(1),), None, (say(5), fault(7)))]
        self.assertEqual(played_alone(steps, ask(), SHUT)[1], ((5,), ("fault", 7)))

    def test_stubborn(self):
        steps = [("try", (give(1),), None, (say(5), give(7), say(6)))]
        self.assertEqual(played_alone(steps, ask(), SHUT)[1], ((5,), ("stubborn",)))

    def test_a_gift_that_can_not_be_reckoned_is_not_stubborn(self):
        steps = [("try", (give(1),), None, (("give", ("part", num(1), num(0)), None),))]
        self.assertEqual(played_alone(steps, ask(), SHUT)[1], ((), ("fault", 0)))

    def test_all_deeds_behind_any_outcome_but_a_gift_are_over(self):
        behind = [ask(1), throw(2), SHUT, throw(3), ask(4)]
        told = [((), ("over",)), ((), ("fault", 2)), ((), ("shut",)), ((), ("fault", 3)), ((), ("over",))]
        last = ("try", (give(1),), (0, (say(8),)), (say(9), give(2), say(7)))
        for steps, deed, outcome in (
            ([give(1), end(3), say(1)], ask(), ("end", 3)), ([give(1), fault(3), say(1)], ask(), ("fault", 3)),
            ([give(1), say(1)], throw(5), ("fault", 5)), ([give(1), say(1)], SHUT, ("shut",)),
            ([("try", (give(1),), None, (fault(6),)), say(1)], SHUT, ("fault", 6)), ([last], SHUT, ("stubborn",)),
        ):
            all_told = played_alone(steps, ask(), deed, *behind)
            self.assertEqual(all_told[0], ((), ("gift", 1)))
            self.assertEqual(all_told[1][1], outcome)
            self.assertEqual(all_told[2:], told)

    def test_a_first_ask_that_ends_or_faults_is_over(self):
        for step, outcome in ((end(3), ("end", 3)), (fault(4), ("fault", 4))):
            told = played_alone([say(2), step], ask(), ask(), throw(1), SHUT)
            self.assertEqual(told, [((2,), outcome), ((), ("over",)), ((), ("fault", 1)), ((), ("shut",))])

    def test_words_are_those_of_each_deed(self):
        steps = [say(1), say(2), give(0), give(0), say(3), give(0), say(4)]
        told = played_alone(steps, *[ask()] * 5)
        self.assertEqual([words for words, _ in told], [(1, 2), (), (3,), (4,), ()])

    def test_words_ahead_of_a_fault_are_told(self):
        self.assertEqual(played_alone([say(1), fault(2)], ask()), [((1,), ("fault", 2))])

    def test_a_play_may_stop_anywhere(self):
        deeds = [ask(0), throw(44), ask(0), ask(1)]
        whole = played(TRYING, 0, (), deeds)
        for many in range(len(deeds)):
            self.assertEqual(played(TRYING, 0, (), deeds[:many]), whole[:many])

    def test_sixty_deeds(self):
        nines = ("round", num(9), (("round", num(9), (("give", slot(0), 0),)),))
        told = played(alone(nines), 0, (), [ask(n) for n in range(60)])
        self.assertEqual(told, [((), ("gift", n)) for n in range(60)])
        told = played_alone([give(1)], ask(), ask(), ask(), *[throw(4), SHUT, ask()] * 19)
        self.assertEqual(told[:3], [((), ("gift", 1)), ((), ("end", 0)), ((), ("over",))])
        self.assertEqual(told[3:], [((), ("fault", 4)), ((), ("shut",)), ((), ("over",))] * 19)
        told = played_alone([end(1)], *[ask()] * 60)
        self.assertEqual(told, [((), ("end", 1))] + [((), ("over",))] * 59)

    def test_more_deeds_are_no_error(self):
        # Point 6 limits them, and no point says that more are refused.
        told = played_alone([end(1)], *[ask()] * 70)
        self.assertEqual(len(told), 70)

    def test_any_work_of_a_program(self):
        program = [(0, 1, (end(1),)), (1, 1, (("end", slot(0)),)), (2, 2, (("end", slot(1)),)), (0, 1, ())]
        for work, numbers, n in ((0, (), 1), (1, (0,), 0), (1, (999,), 999), (2, (3, 4), 4), (3, (), 0)):
            self.assertEqual(played(program, work, numbers, [ask()]), [((), ("end", n))])


class BadAsks(unittest.TestCase):
    PROGRAM = [(0, 1, ()), (1, 1, ()), (2, 2, ())]

    def refused(self, work, numbers, deeds):
        with self.assertRaises(BadAsk):
            played(self.PROGRAM, work, numbers, deeds)
        # A program that is none is told first.
        with self.assertRaises(BadWork):
            played(self.PROGRAM + [(0, 9, ())], work, numbers, deeds)

    def test_a_work_that_there_is_not(self):
        for work in (-1, -3, 3, 4, 1000):
            self.refused(work, (), [])
            self.refused(work, (), [ask()])

    def test_another_count_of_numbers(self):
        for work in (0, 1, 2):
            for many in (0, 1, 2, 3, 4):
                if many != work:
                    self.refused(work, (5,) * many, [])
                    self.refused(work, (5,) * many, [ask()])

    def test_numbers_beyond(self):
        for n in (-1, 1000, 10 ** 30, -(10 ** 30), True, False):
            self.refused(1, (n,), [])
            self.refused(2, (n, 5), [ask()])
            self.refused(2, (5, n), [ask()])
        for n in (0, 999):
            played(self.PROGRAM, 2, (n, n), [])

    def test_what_are_no_deeds(self):
        for deed in (
            ("gift", 1), ("close",), ("", 1), ("Ask", 1), ("shutting",), (), ("ask",), ("throw",), ("ask", 1, 1),
            ("throw", 1, 1), ("shut", 1), ("shut", 0), ("ask", -1), ("ask", 1000), ("throw", -1), ("throw", 1000),
            ("ask", True), ("throw", False), ("ask", None), ("over",), ("shut", "shut"),
        ):
            for deeds in ([deed], [ask(), deed], [SHUT, throw(1), deed, ask(), ask()]):
                self.refused(0, (), deeds)

    def test_deeds_that_are(self):
        for deed in (ask(0), ask(999), throw(0), throw(999), SHUT):
            self.assertEqual(len(played(self.PROGRAM, 0, (), [deed])), 1)


def kinds_are_plain(told):
    """True if a value is made of whole numbers, words, lists and tuples alone."""
    if type(told) in (list, tuple):
        return all(kinds_are_plain(part) for part in told)
    return type(told) in (int, str)


class Values(unittest.TestCase):
    DEEDS = [ask(0), throw(44), ask(5), SHUT, ask(1), throw(2)]

    def test_nothing_that_is_handed_in_is_changed(self):
        for program, numbers in ((ECHO, (5,)), (TRYING, ()), ([(0, 2, (say(1), ("hand", 1, (), 0))), *TRYING], ())):
            deeds = list(self.DEEDS)
            before = deepcopy((program, numbers, deeds))
            played(program, 0, numbers, deeds)
            need_program(program)
            steps_in(program, 0)
            self.assertEqual((program, numbers, deeds), before)

    def test_nothing_is_changed_by_a_refusal(self):
        program, deeds = [(0, 1, ()), (0, 9, ())], [ask(), ("ask",)]
        before = deepcopy((program, deeds))
        with self.assertRaises(BadWork):
            played(program, 0, (), deeds)
        with self.assertRaises(BadAsk):
            played(program[:1], 0, (), deeds)
        self.assertEqual((program, deeds), before)

    def test_a_told_list_may_be_changed(self):
        first = played(TRYING, 0, (), self.DEEDS)
        kept = list(first)
        first[0] = "changed"
        first.clear()
        self.assertEqual(played(TRYING, 0, (), self.DEEDS), kept)

    def test_each_told_list_is_another_one(self):
        self.assertIsNot(played(ECHO, 0, (5,), []), played(ECHO, 0, (5,), []))
        told = played(ECHO, 0, (5,), [ask()])
        told.append("more")
        self.assertEqual(played(ECHO, 0, (5,), [ask()]), [((), ("gift", 5))])

    def test_what_is_told_stays_when_what_was_handed_in_is_changed(self):
        program, deeds = list(TRYING), list(self.DEEDS)
        told = played(program, 0, (), deeds)
        kept = deepcopy(told)
        program.clear()
        deeds.clear()
        self.assertEqual(told, kept)

    def test_kinds_of_what_is_told(self):
        steps = [("say", (word, num(1), num(2))) for word in ("below", "same", "plus", "less", "times", "part")]
        gifts = [("give", (word, num(2), num(2)), None) for word in ("below", "same")]
        told = played_alone([*steps, *gifts, ("end", ("below", num(1), num(2)))], *[ask()] * 4)
        self.assertEqual(told[0], ((1, 0, 3, 999, 2, 0), ("gift", 0)))
        self.assertTrue(kinds_are_plain(told))
        for deeds in ([], self.DEEDS, [SHUT], [throw(1)], [ask(), SHUT, SHUT]):
            told = played(TRYING, 0, (), deeds)
            self.assertIs(type(told), list)
            self.assertTrue(kinds_are_plain(told))
            for row in told:
                words, outcome = row
                self.assertEqual((type(row), type(words), type(outcome)), (tuple, tuple, tuple))


if __name__ == "__main__":
    unittest.main()
