"""Points 7, 8 and 9: machines that somebody typed are run room by room."""

import unittest
from copy import deepcopy

from pausewright.errors import BadAsk, PauseError
from pausewright.running import ran
from tests import rooms_oracle
from tests.chance import Chance
from tests.trees import NO_PART, SHUT, ask, num, slot, throw

END = ((), ("end", num(77)), None, None)


def machine(*rooms, params=0, slots=4):
    return (params, slots, list(rooms))


def said(k, way=("end", num(0)), caught=None, shut=None):
    """A room that says what is in a slot."""
    return ((("say", slot(k)),), way, caught, shut)


def give(n, k=None, r=1):
    return ("give", num(n), k, r)


class Rooms(unittest.TestCase):
    def tells(self, rooms, deeds, *told, more=(), params=0, numbers=()):
        machines = [machine(*rooms, params=params), *more]
        self.assertEqual(ran(machines, 0, numbers, deeds), list(told))
        self.assertEqual(rooms_oracle.ran(machines, 0, numbers, deeds), list(told))


class LittleDeeds(Rooms):
    def test_none(self):
        self.tells([END], [ask()], ((), ("end", 77)))

    def test_set(self):
        room = ((("set", 2, ("plus", slot(0), num(5))),), ("end", slot(2)), None, None)
        self.tells([room], [ask()], ((), ("end", 8)), params=1, numbers=(3,))

    def test_say(self):
        room = ((("say", num(999)), ("say", num(999)), ("say", slot(0))), ("end", num(1)), None, None)
        self.tells([room], [ask(5)], ((999, 999, 3), ("end", 1)), params=1, numbers=(3,))

    def test_count_is_the_rest_by_10(self):
        for n, rest in ((0, 0), (9, 9), (10, 0), (11, 1), (999, 9), (250, 0)):
            room = ((("set", 1, num(88)), ("count", 1, num(n))), ("end", slot(1)), None, None)
            self.tells([room], [ask()], ((), ("end", rest)))

    def test_set_is_no_rest_by_10(self):
        self.tells([((("set", 1, num(11)),), ("end", slot(1)), None, None)], [ask()], ((), ("end", 11)))

    def test_in_order(self):
        little = (("say", slot(1)), ("set", 1, num(12)), ("say", slot(1)), ("count", 1, slot(1)), ("say", slot(1)))
        self.tells([(little, ("end", slot(1)), None, None)], [ask()], ((0, 12, 2), ("end", 2)))

    def test_slots_are_0_at_first(self):
        little = tuple(("say", slot(k)) for k in range(4))
        rooms = [(little, ("end", num(1)), None, None)]
        self.tells(rooms, [ask(9)], ((0, 0, 0, 0), ("end", 1)))
        self.tells(rooms, [ask(9)], ((8, 0, 0, 0), ("end", 1)), params=1, numbers=(8,))
        self.tells(rooms, [ask(9)], ((8, 7, 0, 0), ("end", 1)), params=2, numbers=(8, 7))

    def test_more_slots_than_a_work_has(self):
        little = (("set", 30, num(6)), ("say", slot(29)), ("say", slot(30)))
        typed = (1, 31, [(little, ("end", ("plus", slot(0), slot(30))), None, None)])
        self.assertEqual(ran([typed], 0, (1,), [ask()]), [((0, 6), ("end", 7))])


class Exits(Rooms):
    def test_go(self):
        self.tells([((), ("go", 2), None, None), said(0), said(1, ("end", num(3)))], [ask()], ((0,), ("end", 3)))

    def test_go_back(self):
        rooms = [
            ((("set", 0, ("plus", slot(0), num(1))),), ("fork", ("below", slot(0), num(500)), 1, 2), None, None),
            ((), ("go", 0), None, None),
            said(0),
        ]
        self.tells(rooms, [ask()], ((500,), ("end", 0)))

    def test_fork(self):
        for n, word in ((0, 22), (1, 11), (2, 11), (999, 11)):
            one, other = [((("say", num(said_there)),), ("end", num(0)), None, None) for said_there in (11, 22)]
            self.tells([((), ("fork", num(n), 1, 2), None, None), one, other], [ask()], ((word,), ("end", 0)))

    def test_fork_to_one_room_by_both(self):
        for n in (0, 1):
            self.tells([((), ("fork", num(n), 1, 1), None, None), END], [ask()], ((), ("end", 77)))

    def test_give_asked_on(self):
        rooms = [((), give(5, 2), None, None), said(2)]
        self.tells(rooms, [ask(1)], ((), ("gift", 5)))
        self.tells(rooms, [ask(1), ask(8)], ((), ("gift", 5)), ((8,), ("end", 0)))

    def test_give_that_keeps_nothing(self):
        rooms = [((("set", 0, num(3)),), give(5), None, None), said(0)]
        self.tells(rooms, [ask(), ask(8)], ((), ("gift", 5)), ((3,), ("end", 0)))

    def test_give_is_reckoned_behind_the_little_deeds(self):
        rooms = [((("set", 0, num(3)), ("say", num(4))), ("give", slot(0), 0, 0), None, None)]
        self.tells(rooms, [ask(7), ask(8), ask(9)], *[((4,), ("gift", 3))] * 3)

    def test_give_thrown_in(self):
        rooms = [((), give(5), None, None), END]
        self.tells(rooms, [ask(), throw(6), ask()], ((), ("gift", 5)), ((), ("fault", 6)), ((), ("over",)))

    def test_give_shut(self):
        rooms = [((), give(5), None, None), END]
        self.tells(rooms, [ask(), SHUT, ask()], ((), ("gift", 5)), ((), ("shut",)), ((), ("over",)))

    def test_fault(self):
        rooms = [((("say", num(1)),), ("fault", ("plus", num(2), slot(0))), None, None)]
        self.tells(rooms, [ask(), throw(3)], ((1,), ("fault", 9)), ((), ("fault", 3)), params=1, numbers=(7,))

    def test_end(self):
        rooms = [((("say", num(1)),), ("end", ("plus", num(2), slot(0))), (0, 0), 0)]
        self.tells(rooms, [ask(), SHUT], ((1,), ("end", 9)), ((), ("shut",)), params=1, numbers=(7,))

    def test_shut_where_the_asker_has_not_shut(self):
        for shut in (None, 0, 1):
            rooms = [((("say", num(1)),), SHUT, (0, 1), shut), END]
            self.tells(rooms, [ask(), ask(), throw(3)], ((1,), ("shut",)), ((), ("over",)), ((), ("fault", 3)))

    def test_shut_by_a_throw(self):
        rooms = [((), give(5), (None, 1), None), ((), SHUT, None, 2), END]
        self.tells(rooms, [ask(), throw(3), SHUT], ((), ("gift", 5)), ((), ("shut",)), ((), ("shut",)))

    def test_shut_where_the_asker_has_shut(self):
        rooms = [((), give(5), None, 1), ((("say", num(3)),), SHUT, None, 2), END]
        self.tells(rooms, [ask(), SHUT, ask()], ((), ("gift", 5)), ((3,), ("shut",)), ((), ("over",)))


class Caught(Rooms):
    """Where a fault goes, by all that makes one."""

    FAULTY = (
        ((("set", 0, NO_PART),), ("go", 1), 0), ((("count", 0, NO_PART),), ("go", 1), 0),
        ((("say", NO_PART),), ("go", 1), 0), ((), ("fork", NO_PART, 1, 1), 0), ((), ("give", NO_PART, 0, 1), 0),
        ((), ("hand", 1, (NO_PART, num(1)), 0, 1), 0), ((), ("hand", 1, (num(1), NO_PART), 0, 1), 0),
        ((), ("fault", NO_PART), 0), ((), ("fault", num(6)), 6), ((), ("end", NO_PART), 0),
        ((), ("hand", 2, (), 0, 1), 8),
    )
    MORE = [machine(said(0), params=2), machine(((), ("fault", num(8)), None, None))]

    def test_out_of_the_machine(self):
        for little, way, n in self.FAULTY:
            for shut in (None, 1):
                self.tells([(little, way, None, shut), END], [ask(), ask()], ((), ("fault", n)), ((), ("over",)), more=self.MORE)

    def test_to_a_room_with_its_number(self):
        for little, way, n in self.FAULTY:
            rooms = [((("set", 3, num(55)), *little), way, (3, 2), 1), END, said(3, ("end", num(4)))]
            self.tells(rooms, [ask()], ((n,), ("end", 4)), more=self.MORE)

    def test_to_a_room_without_its_number(self):
        for little, way, n in self.FAULTY:
            rooms = [((("set", 0, num(55)), *little), way, (None, 2), 1), END, said(0, ("end", num(4)))]
            self.tells(rooms, [ask()], ((55,), ("end", 4)), more=self.MORE)

    def test_what_was_done_ahead_of_a_fault_stays(self):
        little = (("set", 0, num(3)), ("say", num(4)), ("count", 1, num(15)), ("set", 2, NO_PART), ("say", num(6)))
        for caught, told in ((None, ((4,), ("fault", 0))), ((None, 2), ((4, 3, 5, 0), ("end", 7)))):
            behind = ((("say", slot(0)), ("say", slot(1)), ("say", slot(2))), ("end", num(7)), None, None)
            self.tells([(little, ("go", 1), caught, None), END, behind], [ask()], told)

    def test_by_an_exit_the_little_deeds_are_done(self):
        for way in (("fork", NO_PART, 1, 1), ("end", NO_PART), ("fault", num(0)), ("give", NO_PART, None, 1)):
            rooms = [((("set", 0, num(3)), ("say", num(4))), way, (1, 2), None), END, said(0)]
            self.tells(rooms, [ask()], ((4, 3), ("end", 0)))

    def test_thrown_in(self):
        for k, word in ((2, 44), (None, 12)):
            rooms = [((("set", 2, num(12)),), give(5, 2), (k, 2), 1), END, said(2, give(6))]
            self.tells(rooms, [ask(), throw(44), throw(45)], ((), ("gift", 5)), ((word,), ("gift", 6)), ((), ("fault", 45)))

    def test_not_that_of_the_room_where_it_goes_on(self):
        rooms = [((), ("go", 1), None, None), ((), ("fault", num(3)), None, None), END]
        self.tells([((), ("go", 1), (0, 2), None), *rooms[1:]], [ask()], ((), ("fault", 3)))
        self.tells([rooms[0], ((), ("fault", num(3)), (0, 2), None), END], [ask()], ((), ("end", 77)))
        rooms = [((), give(5), None, None), ((), ("go", 2), (0, 2), None), END]
        self.tells(rooms, [ask(), throw(3)], ((), ("gift", 5)), ((), ("fault", 3)))

    def test_a_room_may_catch_its_own_faults(self):
        # The second time the slot holds what was caught, and the part can be reckoned.
        again = ((("set", 0, num(4)),), ("go", 0), None, None)
        rooms = [((), ("fork", ("part", num(8), slot(0)), 1, 0), (0, 2), None), said(0), again]
        self.tells(rooms, [ask()], ((4,), ("end", 0)))
        rooms = [((("say", slot(0)),), give(5, 1, 0), (0, 0), None)]
        self.tells(rooms, [ask(), throw(6), throw(7), ask(8)], *[((n,), ("gift", 5)) for n in (0, 6, 7, 7)])

    def test_the_first_reckoning_that_faults(self):
        rooms = [((("say", num(1)), ("set", 0, NO_PART), ("say", num(2))), ("fault", num(9)), (1, 1), None), said(1)]
        self.tells(rooms, [ask()], ((1, 0), ("end", 0)))


class Shutting(Rooms):
    def test_to_a_room(self):
        rooms = [((), give(5), (0, 1), 2), END, ((("say", num(3)),), ("end", num(9)), None, None)]
        self.tells(rooms, [ask(), SHUT, SHUT, ask()], ((), ("gift", 5)), ((3,), ("shut",)), ((), ("shut",)), ((), ("over",)))

    def test_a_fault_behind_a_shutting(self):
        rooms = [((), give(5), (0, 1), 2), END, ((("say", num(3)),), ("fault", num(9)), None, None)]
        self.tells(rooms, [ask(), SHUT, ask()], ((), ("gift", 5)), ((3,), ("fault", 9)), ((), ("over",)))

    def test_a_gift_behind_a_shutting(self):
        rooms = [((), give(5), None, 1), ((("say", num(3)),), give(6), (0, 2), 2), END]
        self.tells(
            rooms, [ask(), SHUT, ask(), throw(8), SHUT],
            ((), ("gift", 5)), ((3,), ("stubborn",)), ((), ("over",)), ((), ("fault", 8)), ((), ("shut",)),
        )

    def test_a_gift_that_can_not_be_reckoned_behind_a_shutting(self):
        rooms = [((), give(5), None, 1), ((), ("give", NO_PART, 0, 1), (0, 2), 2), END]
        self.tells(rooms, [ask(), SHUT], ((), ("gift", 5)), ((), ("shut",)))
        rooms[1] = ((), ("give", NO_PART, 0, 1), None, 2)
        self.tells(rooms, [ask(), SHUT], ((), ("gift", 5)), ((), ("fault", 0)))

    def test_a_fault_is_no_shutting_and_a_shutting_no_fault(self):
        rooms = [((), give(5), (0, 1), None), END]
        self.tells(rooms, [ask(), SHUT], ((), ("gift", 5)), ((), ("shut",)))
        rooms = [((), give(5), None, 1), END]
        self.tells(rooms, [ask(), throw(3)], ((), ("gift", 5)), ((), ("fault", 3)))


class Handing(Rooms):
    def test_the_number_of_its_end(self):
        for k, word in ((2, 15), (None, 12)):
            rooms = [((("set", 2, num(12)),), ("hand", 1, (num(7), ("plus", slot(2), num(1))), k, 1), None, None), said(2)]
            more = [machine(((), ("end", ("plus", slot(0), num(8))), None, None), params=2)]
            self.tells(rooms, [ask()], ((word,), ("end", 0)), more=more)

    def test_numbers_are_handed_on_in_order(self):
        more = [machine(((("say", slot(0)), ("say", slot(1)), ("say", slot(2))), ("end", num(0)), None, None), params=2)]
        rooms = [((("set", 0, num(9)),), ("hand", 1, (num(7), slot(0)), None, 1), None, None), END]
        self.tells(rooms, [ask()], ((7, 9, 0), ("end", 77)), more=more)

    def test_slots_of_its_own_each_time(self):
        more = [machine(((("say", slot(0)), ("set", 0, num(4)), ("set", 1, num(5))), ("end", slot(0)), None, None))]
        hand = ("hand", 1, (), None, 1)
        rooms = [said(1, hand), said(1, ("hand", 1, (), 1, 2)), said(1)]
        self.tells(rooms, [ask()], ((0, 0, 0, 0, 4), ("end", 0)), more=more)

    def test_gifts_of_the_machine_that_was_handed_to(self):
        more = [machine(((), give(5, 0), None, None), said(0, ("end", slot(0))))]
        rooms = [((), ("hand", 1, (), 0, 1), None, None), said(0)]
        self.tells(rooms, [ask(), ask(8)], ((), ("gift", 5)), ((8, 8), ("end", 0)), more=more)

    def test_faults_thrown_in_there(self):
        more = [machine(((), give(5), (0, 1), None), said(0, ("end", num(3))))]
        rooms = [((), ("hand", 1, (), 0, 1), (0, 2), 2), said(0), END]
        self.tells(rooms, [ask(), throw(8)], ((), ("gift", 5)), ((8, 3), ("end", 0)), more=more)
        more = [machine(((), give(5), None, None))]
        rooms = [((), ("hand", 1, (), 0, 2), (0, 1), 2), said(0), END]
        self.tells(rooms, [ask(), throw(8)], ((), ("gift", 5)), ((8,), ("end", 0)), more=more)

    def test_the_shutting_there(self):
        more = [machine(((), give(5), None, 1), ((("say", num(3)),), SHUT, None, 1))]
        rooms = [((), ("hand", 1, (), 0, 1), (0, 1), 2), END, ((("say", num(4)),), SHUT, None, 1)]
        self.tells(rooms, [ask(), SHUT], ((), ("gift", 5)), ((3, 4), ("shut",)), more=more)
        rooms[0] = ((), ("hand", 1, (), 0, 1), (0, 1), None)
        self.tells(rooms, [ask(), SHUT, ask()], ((), ("gift", 5)), ((3,), ("shut",)), ((), ("over",)), more=more)

    def test_a_shutting_that_ends_there_goes_on_here(self):
        more = [machine(((), give(5), None, 1), ((), ("end", num(6)), None, None))]
        rooms = [((), ("hand", 1, (), 0, 1), (0, 2), 2), said(0, give(7, None, 2)), END]
        self.tells(rooms, [ask(), SHUT, ask()], ((), ("gift", 5)), ((6,), ("stubborn",)), ((), ("over",)), more=more)
        rooms[1] = said(0)
        self.tells(rooms, [ask(), SHUT], ((), ("gift", 5)), ((6,), ("shut",)), more=more)

    def test_the_exit_shut_where_the_asker_has_not_shut(self):
        more = [machine(((("say", num(3)),), SHUT, None, 0))]
        rooms = [((), ("hand", 1, (), 0, 1), (0, 1), None), END, said(0, give(5, 0, 2), None, None)]
        self.tells(rooms, [ask(), ask()], ((3,), ("shut",)), ((), ("over",)), more=more)
        rooms[0] = ((), ("hand", 1, (), 0, 1), (0, 1), 2)
        # Nobody has shut, so a gift is none by a shutting.
        self.tells(rooms, [ask(), ask(8), ask(9)], ((3, 0), ("gift", 5)), ((8,), ("gift", 5)), ((9,), ("gift", 5)), more=more)
        rooms[0] = ((), ("hand", 1, (), 0, 1), (0, 1), 1)
        self.tells(rooms, [ask(), SHUT], ((3,), ("end", 77)), ((), ("shut",)), more=more)

    def test_a_fault_that_comes_out_there(self):
        for k, word in ((1, 8), (None, 12)):
            more = [machine(((("say", num(3)),), ("fault", num(8)), None, None))]
            rooms = [((("set", 1, num(12)),), ("hand", 1, (), 1, 2), (k, 1), 2), said(1), END]
            self.tells(rooms, [ask()], ((3, word), ("end", 0)), more=more)

    def test_out_through_many(self):
        hand = ((), ("hand", 2, (), None, 1), None, None)
        more = [machine(hand, END), machine(((), give(5), None, None), END)]
        for deed, outcome in ((throw(6), ("fault", 6)), (SHUT, ("shut",))):
            rooms = [((), ("hand", 1, (), None, 1), None, None), END]
            self.tells(rooms, [ask(), deed, ask()], ((), ("gift", 5)), ((), outcome), ((), ("over",)), more=more)
        rooms = [((), ("hand", 1, (), 0, 1), (1, 2), 3), said(0), said(1), said(2)]
        self.tells(rooms, [ask(), throw(6)], ((), ("gift", 5)), ((6,), ("end", 0)), more=more)
        self.tells(rooms, [ask(), SHUT], ((), ("gift", 5)), ((0,), ("shut",)), more=more)
        self.tells(rooms, [ask(), ask()], ((), ("gift", 5)), ((77,), ("end", 0)), more=more)

    def test_to_an_earlier_machine_and_to_itself(self):
        # Typed machines may: this one hands to itself until its number is 0.
        rooms = [
            ((), ("fork", slot(0), 1, 2), None, None), ((), ("hand", 0, (("less", slot(0), num(1)),), 1, 3), None, None),
            END, ((), ("end", ("plus", slot(1), num(1))), None, None),
        ]
        machines = [machine(*rooms, params=1), machine(((), ("hand", 0, (num(3),), 0, 1), None, None), said(0))]
        self.assertEqual(ran(machines, 0, (4,), [ask()]), [((), ("end", 81))])
        self.assertEqual(ran(machines, 1, (), [ask()]), [((80,), ("end", 0))])
        self.assertEqual(ran(machines, 0, (999,), [ask()]), [((), ("end", 76))])


class Deeds(Rooms):
    ECHO = machine(said(0, ("give", slot(0), 0, 0)), params=1)

    def test_no_deeds(self):
        self.assertEqual(ran([self.ECHO], 0, (5,), []), [])

    def test_first_deeds(self):
        rooms = [said(0, give(1), (0, 1), 1), END]
        over, shut = ((), ("over",)), ((), ("shut",))
        self.tells(rooms, [throw(8), ask(1), throw(9), SHUT], ((), ("fault", 8)), over, ((), ("fault", 9)), shut)
        self.tells(rooms, [SHUT, SHUT, ask(1), throw(0)], shut, shut, over, ((), ("fault", 0)))
        self.tells(rooms, [ask(9)], ((0,), ("gift", 1)))

    def test_behind_any_outcome_but_a_gift(self):
        behind = [ask(1), throw(2), SHUT, throw(3), ask(4)]
        told = [((), ("over",)), ((), ("fault", 2)), ((), ("shut",)), ((), ("fault", 3)), ((), ("over",))]
        for deed, rooms, outcome in (
            (ask(), [END], ("end", 77)), (ask(), [((), ("fault", num(4)), None, None)], ("fault", 4)),
            (ask(), [((), SHUT, None, None)], ("shut",)),
        ):
            self.tells(rooms, [deed, *behind], ((), outcome), *told)
        rooms = [((), give(5), None, 1), ((), give(6, None, 0), (0, 0), 0)]
        self.tells(rooms, [ask(), SHUT, *behind], ((), ("gift", 5)), ((), ("stubborn",)), *told)
        self.tells(rooms, [ask(), throw(6), *behind], ((), ("gift", 5)), ((), ("fault", 6)), *told)

    def test_words_are_those_of_each_deed(self):
        told = ran([self.ECHO], 0, (5,), [ask(1), ask(2), ask(3), SHUT])
        self.assertEqual(told, [((5,), ("gift", 5)), ((2,), ("gift", 2)), ((3,), ("gift", 3)), ((), ("shut",))])

    def test_many_rooms(self):
        rooms = [((), ("go", at + 1), None, None) for at in range(5000)]
        self.assertEqual(ran([machine(*rooms, END)], 0, (), [ask()]), [((), ("end", 77))])

    def test_sixty_deeds(self):
        told = ran([self.ECHO], 0, (5,), [ask(n) for n in range(60)])
        self.assertEqual(told[1:], [((n,), ("gift", n)) for n in range(1, 60)])


class BadAsks(unittest.TestCase):
    MACHINES = [machine(END), machine(END, params=1), machine(END, params=2)]

    def refused(self, work, numbers, deeds):
        with self.assertRaises(BadAsk):
            ran(self.MACHINES, work, numbers, deeds)

    def test_a_machine_that_there_is_not(self):
        for work in (-1, -3, 3, 4, 1000):
            self.refused(work, (), [])
            self.refused(work, (), [ask()])
        with self.assertRaises(BadAsk):
            ran([], 0, (), [])

    def test_another_count_of_numbers(self):
        for work in (0, 1, 2):
            for many in (0, 1, 2, 3, 4):
                if many != work:
                    self.refused(work, (5,) * many, [])
                    self.refused(work, (5,) * many, [ask()])
                else:
                    self.assertEqual(ran(self.MACHINES, work, (5,) * many, [ask()]), [((), ("end", 77))])

    def test_numbers_beyond(self):
        for n in (-1, 1000, 10 ** 30, True, False):
            self.refused(1, (n,), [])
            self.refused(2, (n, 5), [ask()])
            self.refused(2, (5, n), [SHUT])
        for n in (0, 999):
            self.assertEqual(ran(self.MACHINES, 2, (n, n), []), [])

    def test_what_are_no_deeds(self):
        for deed in (
            ("gift", 1), ("close",), ("Ask", 1), (), ("ask",), ("throw",), ("ask", 1, 1), ("throw", 1, 1), ("shut", 1),
            ("ask", -1), ("ask", 1000), ("throw", -1), ("throw", 1000), ("ask", True), ("throw", False), ("over",),
        ):
            for deeds in ([deed], [ask(), deed], [SHUT, throw(1), deed, ask(), ask()]):
                self.refused(0, (), deeds)


class Values(unittest.TestCase):
    def test_nothing_that_is_handed_in_is_changed(self):
        rooms = [said(0, ("hand", 1, (num(3),), 1, 1)), said(1)]
        for deeds in ([ask(), ask(4)], [ask(), throw(4)], [ask(), SHUT], [SHUT], [throw(1), ask(1)], [ask(), ("ask",)]):
            handed = ([machine(*rooms, params=1), machine(((), give(1, 0), (0, 1), 1), said(0), params=1)], (5,), deeds)
            before = deepcopy(handed)
            try:
                ran(handed[0], 0, handed[1], handed[2])
            except PauseError:
                pass
            self.assertEqual(handed, before)

    def test_a_told_list_may_be_changed(self):
        first = ran([Deeds.ECHO], 0, (5,), [ask(), ask(7)])
        kept = list(first)
        first.clear()
        self.assertEqual(ran([Deeds.ECHO], 0, (5,), [ask(), ask(7)]), kept)

    def test_what_is_told_stays(self):
        machines, deeds = [machine(*Deeds.ECHO[2], params=1)], [ask(), ask(7)]
        told = ran(machines, 0, (5,), deeds)
        machines[0][2].clear()
        machines.clear()
        deeds.clear()
        self.assertEqual(told, [((5,), ("gift", 5)), ((7,), ("gift", 7))])

    def test_a_changed_machine_is_run_as_it_is_then(self):
        machines = [machine(END)]
        self.assertEqual(ran(machines, 0, (), [ask()]), [((), ("end", 77))])
        machines[0][2][0] = ((), ("end", num(78)), None, None)
        self.assertEqual(ran(machines, 0, (), [ask()]), [((), ("end", 78))])

    def test_kinds_of_what_is_told(self):
        told = ran([Deeds.ECHO], 0, (5,), [ask(), ask(7), SHUT])
        self.assertIs(type(told), list)
        for row in told:
            self.assertEqual([type(part) for part in (row, *row)], [tuple] * 3)


class ByChance(unittest.TestCase):
    def test_ran_alike(self):
        outcomes = set()
        for seed in range(1500):
            chance = Chance(seed)
            machines = chance.machines()
            for work, (params, _, _) in enumerate(machines):
                numbers, deeds = chance.numbers(params), chance.deeds()
                try:
                    want = rooms_oracle.ran(machines, work, numbers, deeds)
                except rooms_oracle.TooLong:
                    continue
                self.assertEqual(ran(machines, work, numbers, deeds), want, (seed, work))
                outcomes.update((deed[0], outcome[0]) for deed, (_, outcome) in zip(deeds, want))
        self.assertEqual(len(outcomes), 12, outcomes)


if __name__ == "__main__":
    unittest.main()
