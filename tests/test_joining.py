"""Points 10 and 11: alike rooms of a machine are joined."""

import unittest
from copy import deepcopy

from pausewright.joining import joined
from pausewright.making import made
from pausewright.running import ran
from tests import rooms_oracle
from tests.chance import Chance
from tests.trees import NO_PART, SHUT, ask, num, slot, throw

END = ((), ("end", num(77)), None, None)
OTHER = ((), ("end", num(78)), None, None)


def say(n, r, caught=None, shut=None):
    return ((("say", num(n)),), ("go", r), caught, shut)


def fork(r, q):
    return ((), ("fork", slot(0), r, q), None, None)


def machine(*rooms, params=0, slots=4):
    return (params, slots, list(rooms))


class Joining(unittest.TestCase):
    def joins(self, rooms, told):
        """Joined, these rooms are those that are told, which stay as they are when they are joined once more."""
        for params in (0, 1):
            handed = machine(*rooms, params=params)
            before = deepcopy(handed)
            want = machine(*told, params=params)
            self.assertEqual(joined(handed), want)
            self.assertEqual(rooms_oracle.joined(handed), want)
            self.assertEqual(handed, before)
            self.assertEqual(joined(want), want)

    def stays(self, *rooms):
        self.joins(rooms, rooms)


class Alike(Joining):
    def test_one_room(self):
        self.stays(END)

    def test_two_ends(self):
        self.joins([fork(1, 2), END, END], [fork(1, 1), END])
        self.stays(fork(1, 2), END, OTHER)

    def test_alike_by_the_rooms_behind(self):
        self.joins([fork(1, 2), say(1, 3), say(1, 4), END, END], [fork(1, 1), say(1, 2), END])
        self.stays(fork(1, 2), say(1, 3), say(1, 4), END, OTHER)

    def test_a_difference_far_behind(self):
        many = 60
        rooms = [fork(1, 2)] + [say(1, at + 2) for at in range(1, 2 * many + 1)]
        self.joins([*rooms, END, END], [fork(1, 1), *[say(1, at + 1) for at in range(1, many + 1)], END])
        self.stays(*rooms, END, OTHER)

    def test_rooms_that_name_themselves(self):
        self.joins([fork(1, 2), say(1, 1), say(1, 2)], [fork(1, 1), say(1, 1)])
        self.stays(fork(1, 2), say(1, 1), say(2, 2))

    def test_rooms_that_name_one_another(self):
        self.joins([say(1, 1), say(1, 0)], [say(1, 0)])
        self.joins([say(1, 1), say(1, 2), say(1, 0)], [say(1, 0)])
        self.joins([say(1, 1), say(2, 2), say(1, 3), say(2, 0)], [say(1, 1), say(2, 0)])
        self.stays(say(1, 1), say(1, 2), say(2, 0))

    def test_a_loop_and_a_longer_one(self):
        rooms = [fork(1, 3), say(1, 2), say(1, 1), say(1, 4), say(1, 5), say(1, 3)]
        self.joins(rooms, [fork(1, 1), say(1, 1)])
        rooms = [fork(1, 3), say(1, 2), say(2, 1), say(1, 4), say(2, 5), say(1, 3)]
        # Behind the longer one's third room comes its first: that is said twice in a row.
        self.stays(*self.as_met(rooms))

    def as_met(self, rooms):
        order = rooms_oracle.met(rooms)
        self.assertEqual(len(order), len(rooms))
        return [rooms_oracle.put(rooms[r], [order.index(q) for q in rooms_oracle.names_of(rooms[r])]) for r in order]

    def test_rooms_that_name_a_loop_and_the_loop(self):
        self.joins([say(1, 1), say(1, 1)], [say(1, 0)])
        self.joins([say(1, 1), say(2, 2), say(2, 2)], [say(1, 1), say(2, 1)])

    def test_rooms_that_go_on_without_doing_anything_stay(self):
        idle = ((), ("go", 1), None, None)
        self.stays(idle, END)
        self.stays(idle, ((), ("go", 2), None, None), END)
        self.joins([((), ("go", 0), None, None)], [((), ("go", 0), None, None)])
        self.joins([fork(1, 2), ((), ("go", 3), None, None), ((), ("go", 3), None, None), END], [
            fork(1, 1), ((), ("go", 2), None, None), END,
        ])
        self.joins([idle, ((), ("go", 0), None, None)], [((), ("go", 0), None, None)])

    def test_a_fork_to_one_room_stays_a_fork(self):
        self.stays(fork(1, 1), END)

    def test_rooms_that_are_alike_but_for_one_thing(self):
        base = ((("set", 0, num(1)), ("say", num(2)), ("count", 1, num(3))), ("give", num(4), 0, 2), (0, 2), 2)
        little, way, caught, shut = base
        ways = (
            ("go", 2), ("give", num(5), 0, 2), ("give", num(4), 1, 2), ("give", num(4), None, 2), ("give", slot(0), 0, 2),
            ("hand", 0, (num(4),), 0, 2), ("hand", 1, (num(4),), 0, 2), ("hand", 0, (num(5),), 0, 2),
            ("hand", 0, (), 0, 2), ("hand", 0, (num(4),), None, 2), ("hand", 0, (num(4),), 1, 2),
            ("hand", 0, (num(4), num(4)), 0, 2), ("fault", num(4)), ("fault", num(5)), ("end", num(4)), ("end", num(0)),
            ("shut",), ("fork", num(4), 2, 2), ("fork", num(5), 2, 2),
        )
        littles = (
            (), little[:2], little[1:], (little[1], little[0], little[2]), (*little, little[2]),
            (("set", 1, num(1)), *little[1:]), (("set", 0, num(2)), *little[1:]), (("count", 0, num(1)), *little[1:]),
            (("set", 0, ("plus", num(1), num(0))), *little[1:]), (little[0], ("say", num(0)), little[2]),
            (("set", 0, slot(1)), *little[1:]), (little[0], ("say", ("less", num(2), num(1))), little[2]),
            (little[0], ("say", ("less", num(1), num(2))), little[2]),
        )
        others = [(little, one, caught, shut) for one in ways] + [(one, way, caught, shut) for one in littles]
        others += [(little, way, None, shut), (little, way, (1, 2), shut), (little, way, (None, 2), shut)]
        others += [(little, way, caught, None), (little, way, None, None)]
        self.joins([fork(1, 3), base, END, base], [fork(1, 1), base, END])
        rooms = [base, *others]
        for at, one in enumerate(rooms):
            self.joins([fork(1, 3), one, END, one], self.whole(fork(1, 1), one))
            for other in rooms[:at]:
                told = joined(machine(fork(1, 3), one, END, other))
                self.assertEqual(told, rooms_oracle.joined(machine(fork(1, 3), one, END, other)))
                self.assertEqual(len(told[2]), 3 + (2 in rooms_oracle.names_of(one) + rooms_oracle.names_of(other)))

    def whole(self, *rooms):
        """The rooms, with the end behind them where one of them names it."""
        return [*rooms, END] if any(2 in rooms_oracle.names_of(room) for room in rooms) else list(rooms)

    def test_rooms_that_name_others_at_one_place(self):
        room = ((("say", num(1)),), ("fork", num(0), 3, 3), (0, 3), 3)
        for place in range(4):
            other = rooms_oracle.put(room, [3] * place + [4] + [3] * (3 - place))
            for last, many in ((END, 3), (OTHER, 5)):
                told = joined(machine(fork(1, 2), room, other, END, last))
                self.assertEqual(told, rooms_oracle.joined(machine(fork(1, 2), room, other, END, last)))
                self.assertEqual(len(told[2]), many)

    def test_an_order_of_rooms_matters(self):
        self.stays(fork(1, 2), ((), ("fork", num(1), 3, 4), None, None), ((), ("fork", num(1), 4, 3), None, None), END, OTHER)

    def test_caught_and_shut_are_other_places(self):
        rooms = [fork(1, 2), say(1, 3, (0, 3), None), say(1, 3, None, 3), END]
        self.stays(*rooms)
        self.stays(fork(1, 2), say(1, 3, (0, 4), 3), say(1, 3, (0, 3), 4), END, OTHER)


class Met(Joining):
    def test_rooms_that_can_not_be_come_to(self):
        self.joins([END, END], [END])
        self.joins([END, OTHER, say(1, 0)], [END])
        self.joins([say(1, 2), say(2, 0), END], [say(1, 1), END])
        self.joins([say(1, 3), say(1, 2), say(1, 1), END], [say(1, 1), END])

    def test_a_room_that_can_not_be_come_to_parts_none(self):
        # It leads to one of two alike rooms alone.
        self.joins([fork(1, 2), END, END, say(1, 1)], [fork(1, 1), END])

    def test_by_exits_then_caught_then_shut(self):
        ends = [((), ("end", num(at)), None, None) for at in range(9)]
        first = ((), ("fork", num(0), 4, 3), (None, 2), 1)
        told = [((), ("fork", num(0), 1, 2), (None, 3), 4), ends[4], ends[3], ends[2], ends[1]]
        self.joins([first, *ends[1:5]], told)

    def test_of_each_room_in_turn(self):
        ends = [((), ("end", num(at)), None, None) for at in range(9)]
        rooms = [
            fork(1, 2), ((), ("give", num(0), None, 3), (0, 4), 5), ((), ("hand", 0, (), None, 6), (0, 7), 8), *ends[3:9],
        ]
        self.stays(*rooms)
        # The one that is met first is gone on from first.
        mixed = [fork(2, 1), *rooms[1:]]
        self.joins(mixed, [
            fork(1, 2), ((), ("hand", 0, (), None, 3), (0, 4), 5), ((), ("give", num(0), None, 6), (0, 7), 8),
            *ends[6:9], *ends[3:6],
        ])

    def test_a_room_that_is_met_once_more_keeps_its_number(self):
        self.joins([fork(3, 0), END, OTHER, fork(2, 1)], [fork(1, 0), fork(2, 3), OTHER, END])

    def test_by_caught_and_shut_alone(self):
        rooms = [((), ("give", num(1), None, 0), (0, 1), 2), END, OTHER]
        self.stays(*rooms)
        self.joins([((), ("give", num(1), None, 0), None, 2), END, OTHER], [((), ("give", num(1), None, 0), None, 1), OTHER])
        self.joins([((), ("fault", num(1)), (0, 2), None), END, OTHER], [((), ("fault", num(1)), (0, 1), None), OTHER])

    def test_room_0_may_be_alike_another(self):
        self.joins([say(1, 1), fork(0, 2), say(1, 1)], [say(1, 1), fork(0, 0)])


class Told(unittest.TestCase):
    def test_slots_stay(self):
        self.assertEqual(joined(machine(END, params=2, slots=30)), (2, 30, [END]))

    def test_lists_may_be_changed(self):
        for rooms in ([END], [fork(1, 2), END, END]):
            handed = machine(*rooms)
            told = joined(handed)
            self.assertIsNot(told[2], handed[2])
            kept = deepcopy(told)
            handed[2].clear()
            self.assertEqual(told, kept)
            told[2].clear()
            self.assertEqual(joined(machine(*rooms)), kept)

    def test_kinds_of_what_is_told(self):
        told = joined(machine(fork(1, 2), say(1, 3, (0, 3), 3), say(1, 3, (0, 3), 3), END))
        rooms_oracle.need_machine(told, [(0, 4, ())], 0)

    def test_deep_reckonings(self):
        e = NO_PART
        for _ in range(6):
            e = ("plus", e, ("less", num(1), e))
        rooms = [fork(1, 2), ((), ("end", e), None, None), ((), ("end", e), None, None)]
        self.assertEqual(joined(machine(*rooms)), machine(fork(1, 1), rooms[1]))


class ByChance(unittest.TestCase):
    def test_joined_as_pairs_of_rooms_are(self):
        smaller = 0
        for seed in range(1200):
            chance = Chance(seed)
            for one in chance.machines():
                told = joined(one)
                self.assertEqual(told, rooms_oracle.joined(one), seed)
                self.assertEqual(joined(told), told)
                self.assertEqual(joined(chance.copied(one)), told, seed)
                smaller += len(told[2]) < len(one[2])
        self.assertGreater(smaller, 500)

    def test_runs_as_the_one_that_was_handed_in(self):
        for seed in range(1000):
            chance = Chance(seed)
            machines = chance.machines()
            copied = [chance.copied(one) for one in machines]
            for work, (params, _, _) in enumerate(machines):
                numbers, deeds = chance.numbers(params), chance.deeds()
                try:
                    want = rooms_oracle.ran(copied, work, numbers, deeds)
                except rooms_oracle.TooLong:
                    continue
                self.assertEqual(ran(copied, work, numbers, deeds), want, seed)
                self.assertEqual(ran([joined(one) for one in copied], work, numbers, deeds), want, seed)

    def test_made_machines_of_many_copies(self):
        for seed in range(150):
            chance = Chance(seed)
            for one in made(chance.program()):
                self.assertEqual(joined(chance.copied(one)), one)

    def test_changed_machines(self):
        # One room of a made machine comes to be another: what was told apart may be alike then.
        for seed in range(300):
            chance = Chance(seed)
            for params, slots, rooms in made(chance.program(1)):
                if len(rooms) < 40:
                    rooms[chance.random.randrange(len(rooms))] = chance.pick(*rooms)
                    self.assertEqual(joined((params, slots, rooms)), rooms_oracle.joined((params, slots, rooms)), seed)

    def test_deeds_of_a_joined_machine(self):
        one = ((("say", slot(0)),), ("give", num(1), 0, 1), (0, 1), 2)
        other = ((("say", slot(0)),), ("give", num(1), 0, 0), (0, 0), 3)
        machines = [machine(one, other, END, END)]
        told = [joined(one) for one in machines]
        self.assertEqual(len(told[0][2]), 2)
        for deeds in ([ask(), ask(3), throw(4), SHUT], [ask(), SHUT], [ask(), ask(5), SHUT, ask()]):
            self.assertEqual(ran(told, 0, (), deeds), ran(machines, 0, (), deeds))


if __name__ == "__main__":
    unittest.main()
