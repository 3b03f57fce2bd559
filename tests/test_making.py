"""Points 4, 6, 9, 10 and 12: works are made into machines, which tell what their trees tell."""

import unittest
from copy import deepcopy
from itertools import product
from random import Random

from pausewright.errors import BadAsk, BadWork
from pausewright.joining import joined
from pausewright.making import made, matched, most_rooms
from pausewright.running import ran
from pausewright.walking import played
from pausewright.works import need_program, steps_in
from tests import oracle
from tests.chance import Chance
from tests.rooms_oracle import need_told
from tests.trees import NO_PART, SHUT, alone, ask, end, fault, give, num, say, slot, throw, within

LEAVE = ("leave",)
KEEP = ("set", 3, ("plus", slot(3), num(1)))
TELL = (("say", slot(0)), ("say", slot(1)), ("say", slot(2)))

# Steps to stand at a place, each in slots 0 to 2 of four.
STEPS = {
    "set": ("set", 0, ("plus", slot(0), num(1))),
    "say": ("say", ("plus", slot(0), num(500))),
    "give": ("give", ("plus", slot(1), num(600)), 1),
    "give and keep nothing": ("give", slot(1), None),
    "fault": ("fault", ("plus", slot(0), num(700))),
    "end": ("end", ("plus", slot(0), num(800))),
    "set that faults": ("set", 0, NO_PART),
    "say that faults": ("say", NO_PART),
    "give that faults": ("give", NO_PART, 1),
    "if that faults": ("if", NO_PART, (say(1),), (say(2),)),
    "round that faults": ("round", NO_PART, (say(1),)),
    "fault that faults": ("fault", NO_PART),
    "end that faults": ("end", NO_PART),
    "empty if": ("if", slot(0), (), ()),
    "empty round": ("round", num(999), ()),
    "empty try": ("try", (), None, ()),
    "leave": LEAVE,
    "leave a round": ("round", num(3), (KEEP, give(3, 1), LEAVE, say(1))),
}

# Places for a step; what is said behind it tells whether it went on there.
PLACES = {
    "a body": lambda *steps: steps,
    "the first of if": lambda *steps: (("if", num(3), (*steps, say(10)), (say(11),)), say(12)),
    "the second of if": lambda *steps: (("if", num(0), (say(11),), (*steps, say(10))), say(12)),
    "round": lambda *steps: (("round", num(12), (say(13), *steps, say(14))), say(15)),
    "the first of try": lambda *steps: (("try", (*steps, say(16)), None, (say(17),)), say(18)),
    "the first of try with caught": lambda *steps: (("try", (*steps, say(19)), (2, TELL), (say(20),)), say(21)),
    "the first of try without last": lambda *steps: (("try", (*steps, say(22)), (None, TELL), ()), say(23)),
    "the first of empty try": lambda *steps: (("try", (*steps, say(24)), None, ()), say(25)),
    "caught": lambda *steps: (("try", (fault(4), say(26)), (2, (*TELL, *steps, say(27))), (say(28),)), say(29)),
    "last": lambda *steps: (("try", (say(30),), (2, (say(31),)), (*steps, say(32))), say(33)),
    "last behind a gift": lambda *steps: (("try", (give(5, 2),), None, (*steps, say(34))), say(35)),
    "last behind a fault": lambda *steps: (("try", (fault(6),), None, (*steps, say(36))), say(37)),
    "last behind caught": lambda *steps: (("try", (fault(7),), (2, (say(38), give(8, 0))), (*steps, say(39))), say(40)),
    "last behind a fault of caught": lambda *steps: (("try", (fault(9),), (2, (fault(10),)), (*steps, say(41))), say(42)),
    "last behind an end": lambda *steps: (("try", (end(11),), (2, (say(43),)), (*steps, say(44))), say(45)),
    "last behind a leaving": lambda *steps: (
        ("round", num(3), (say(46), ("try", (LEAVE,), (2, (say(47),)), (*steps, say(48))), say(49))), say(50),
    ),
    "another work": None,
}

# Deeds behind the first ask: an ask, a throw or a shutting at each gift.
WAYS = [(ask(0), *ways) for ways in product((ask(901), throw(902), SHUT), repeat=3)]
FEW_WAYS = [(ask(0), *ways) for ways in (
    (ask(901),) * 6, (throw(902),) * 6, (SHUT, ask(901)), (ask(901), throw(902), ask(903), SHUT),
    (ask(901), ask(902), SHUT), (throw(901), ask(902), SHUT, throw(903)),
)]


def placed(places, step):
    """A program with the step within these places, the last the innermost; None if there is none such."""
    works = []
    steps = (step,)
    for place in reversed(places):
        if PLACES[place] is None:
            # The later works are numbered from behind, as they are handed to by the one ahead.
            works.append(steps)
            steps = (("hand", -len(works), (slot(0),), 1), say(51))
        else:
            steps = PLACES[place](*steps)
    works.append(steps)
    works.reverse()
    program = [(1, 4, numbered(steps, len(works))) for steps in works]
    try:
        need_program(program)
    except BadWork:
        return None
    return program


def numbered(steps, many):
    """The steps with handings to works as they are numbered from the front."""
    if isinstance(steps, tuple) and steps[:1] == ("hand",) and steps[1] < 0:
        return ("hand", many + steps[1], *steps[2:])
    return tuple(numbered(part, many) for part in steps) if isinstance(steps, tuple) else steps


class Alike(unittest.TestCase):
    def tells(self, program, deeds, numbers=None):
        """What the first work tells, which is the same by its machine and by its tree."""
        self.tells_all(program, [deeds], numbers)

    def tells_all(self, program, ways, numbers=None):
        machines = made(program)
        for at, machine in enumerate(machines):
            need_told(machine, program, at, most_rooms(program, at))
        handed = (3,) * program[0][0] if numbers is None else numbers
        for deeds in ways:
            told = ran(machines, 0, handed, list(deeds))
            self.assertEqual(told, played(program, 0, handed, list(deeds)), (program, deeds))
            self.assertEqual(told, oracle.played(program, 0, handed, list(deeds)), (program, deeds))


class Places(Alike):
    def test_each_step_at_each_place(self):
        for place, step in product(PLACES, STEPS.values()):
            program = placed([place], step)
            if program is not None:
                self.tells_all(program, WAYS)

    def test_each_step_at_each_place_within_each_place(self):
        for outer, inner, step in product(PLACES, PLACES, STEPS.values()):
            program = placed([outer, inner], step)
            if program is not None:
                self.tells_all(program, FEW_WAYS)

    def test_each_place_within_others(self):
        random = Random(8)
        deepest = 0
        for many in (3, 4, 5, 6) * 150:
            places = [random.choice([*PLACES][1:]) for _ in range(many)]
            program = placed(places, random.choice([*STEPS.values()]))
            if program is not None:
                self.tells_all(program, random.sample(WAYS, 4) + FEW_WAYS[:2])
                deepest = max(deepest, many - places.count("another work"))
        self.assertEqual(deepest, 6)

    def test_each_place_six_times_within_itself(self):
        for place in [*PLACES][1:-1]:
            around = 3 if place == "last behind a leaving" else 6
            for name in ("give", "leave", "end", "fault", "leave a round"):
                program = placed([place] * (around - (name == "leave a round")), STEPS[name])
                if program is not None:
                    self.tells_all(program, FEW_WAYS)

    def test_no_leaving_is_left_out(self):
        for inner in [*PLACES][1:-1]:
            self.assertIsNotNone(placed(["round", inner], LEAVE))
            self.assertIsNotNone(placed(["another work", "another work", "another work", inner], STEPS["give"]))

    def test_what_comes_out_of_a_last_goes_on_in_place_of_what_came_before(self):
        before = ((), (give(1),), (fault(2),), (end(3),), (LEAVE,), (("hand", 1, (num(4),), 0),))
        inner = (*before, (say(5),), (give(6), give(7), LEAVE))
        more = (1, 2, (give(8, 1), ("if", slot(1), (fault(9),), (end(10),))))
        for first, last, outer in product(before, inner, inner):
            steps = ("try", (("try", first, None, last), say(11)), None, (*outer, say(12)))
            work = (0, 4, (("round", num(2), (steps, say(13))), say(14), end(15)))
            self.tells_all([work, more], WAYS[::4] + FEW_WAYS)

    def test_caught_with_each_before_and_behind(self):
        first = ((give(1), fault(2)), (fault(3),), (("say", NO_PART),), (("hand", 1, (), 0),), (say(4),))
        body = ((), (give(5),), (fault(6),), (end(7),), (LEAVE,), (("hand", 1, (), 0),))
        more = (0, 1, (give(8, 0), fault(9)))
        for one, two, last, k in product(first, body, body, (None, 1)):
            steps = ("try", one, (k, (*two, ("say", slot(1)))), (*last, say(10)))
            self.tells_all([(0, 2, (("round", num(2), (steps, say(11))), say(12))), more], WAYS[::5] + FEW_WAYS[:3])

    def test_the_worth_of_what_is_pending_is_kept(self):
        # Tries and rounds within last, and a last once more in a round, each with slots of their own.
        inner = ("try", (end(2),), None, (("round", num(3), (give(4, 0), LEAVE)),))
        for step in (end(1), fault(1), give(1), LEAVE, ("set", 1, num(1))):
            last = (("round", num(2), (("try", (fault(3), ), (1, (say(5),)), (give(6), say(7))), say(8))),)
            for behind in (last, (("round", num(2), (("try", (inner,), None, (LEAVE,)),)), *last)):
                steps = ("round", num(2), (("try", (step,), None, behind), say(9)))
                self.tells_all(alone(steps, ("say", slot(0)), ("say", slot(1))), WAYS)

    def test_rounds_within_rounds(self):
        step = ("give", ("plus", ("times", slot(0), num(10)), slot(1)), 2)
        inner = ("round", ("plus", slot(0), num(1)), (("set", 1, ("plus", slot(1), num(1))), step))
        outer = ("round", num(3), (("set", 0, ("plus", slot(0), num(1))), ("set", 1, num(0)), inner))
        self.tells(alone(outer), [ask(n) for n in range(12)])

    def test_a_round_is_reckoned_once(self):
        for n in (0, 1, 9, 10, 11, 999):
            steps = (("set", 0, num(n)), ("round", slot(0), (("set", 0, num(5)), give(1))))
            self.tells(alone(*steps), [ask(0)] * 12)

    def test_what_a_gift_tells_while_a_shutting_is_pending(self):
        for last in ((give(2),), (say(1), give(2)), (("give", NO_PART, None),), (("hand", 1, (), None),)):
            for deeds in ([ask(), SHUT], [ask(), SHUT, ask()], [ask(), throw(3), SHUT], [ask(), ask(), SHUT, SHUT]):
                self.tells([(0, 1, (("try", (give(1), give(4)), None, last),)), (0, 1, (give(5), say(6)))], deeds)

    def test_first_deeds(self):
        program = [(1, 1, (("try", (say(1), give(2)), (0, (say(3),)), (say(4),)),))]
        for first, then in product((ask(1), throw(5), SHUT), repeat=2):
            self.tells(program, [first, then, ask(0), throw(6), SHUT])
        self.tells(program, [])

    def test_numbers_that_are_handed_in(self):
        program = [(2, 3, (*TELL, ("give", ("plus", slot(0), slot(1)), 2), *TELL))]
        for numbers in product((0, 1, 999), repeat=2):
            self.tells(program, [ask(5), ask(6)], numbers)


class ByChance(unittest.TestCase):
    def test_ran_is_played(self):
        for seed in range(1500):
            chance = Chance(seed)
            program = chance.program()
            machines = made(program)
            self.assertEqual(len(machines), len(program))
            for work, (params, _, _) in enumerate(program):
                need_told(machines[work], program, work, most_rooms(program, work))
                self.assertEqual(joined(machines[work]), machines[work])
                for _ in range(2):
                    numbers, deeds = chance.numbers(params), chance.deeds()
                    told = ran(machines, work, numbers, deeds)
                    self.assertEqual(told, played(program, work, numbers, deeds), (seed, work, deeds))


class Dense:
    """A body of forty steps, of which as many as can be are tries and rounds within one another."""

    def __init__(self, seed):
        self.random = Random(seed)
        self.left = 40
        self.deepest = 0

    def body(self, around, in_round):
        self.deepest = max(self.deepest, around)
        steps = []
        while self.left > 0 and (around == 0 or len(steps) < self.random.randint(0, 3)):
            self.left -= 1
            steps.append(self.step(around, in_round))
        return tuple(steps)

    def step(self, around, in_round):
        word = self.random.choice(("try", "try", "round"))
        if around == 6 or self.random.random() < 0.2:
            n = self.random.randrange(9)
            return self.random.choice((give(n, 0), fault(n), end(n), LEAVE if in_round else say(n)))
        if word == "round":
            return (word, num(3), self.body(around + 1, True))
        first = self.body(around + 1, in_round)
        caught = (1, self.body(around + 1, in_round)) if self.random.random() < 0.5 else None
        return (word, first, caught, self.body(around + 1, in_round))


class Told(unittest.TestCase):
    """Point 10."""

    def told(self, program):
        for at, machine in enumerate(made(program)):
            need_told(machine, program, at, most_rooms(program, at))
        return [len(rooms) for _, _, rooms in made(program)]

    def test_an_empty_work(self):
        self.assertEqual(made([(1, 3, ())]), [(1, 3, [((), ("end", num(0)), None, None)])])

    def test_steps_that_can_not_be_come_to(self):
        for steps in ((end(1), say(2), give(3)), (fault(1), say(2)), (("round", num(3), (LEAVE, say(1), give(2))),)):
            self.told(alone(*steps))
        self.assertEqual(made(alone(end(1), say(2), give(3))), made(alone(end(1))))

    def test_alike_steps_are_joined(self):
        steps = (("if", slot(0), (say(1), give(2)), (say(1), give(2))), say(3))
        self.assertLess(self.told(alone(*steps))[0], self.told(alone(say(1), give(2), say(1), give(2), say(3)))[0])

    def test_forty_steps_within_one_another(self):
        deepest = 0
        for seed in range(150):
            dense = Dense(seed)
            program = alone(*dense.body(0, False))
            self.assertEqual(steps_in(program, 0), 40)
            self.told(program)
            deepest = max(deepest, dense.deepest)
            for ways in WAYS[seed::27]:
                told = ran(made(program), 0, (), list(ways))
                self.assertEqual(told, played(program, 0, (), list(ways)), (seed, ways))
        self.assertEqual(deepest, 6)

    def test_forty_of_each_kind(self):
        for step in (
            ("set", 0, num(1)), say(1), give(1), fault(1), end(1), ("if", slot(0), (), ()), ("round", slot(0), ()),
            ("try", (), None, ()), ("try", (), (0, ()), ()),
        ):
            self.assertLessEqual(self.told(alone(*[step] * 40))[0], most_rooms(alone(*[step] * 40), 0))

    def test_twenty_tries_with_last_in_a_row_and_in_rounds(self):
        for first in (give(1), fault(2), end(3)):
            tries = tuple(("try", (("give", num(at), 0),), (1, ()), (say(at),)) for at in range(13))
            self.told(alone(*tries))
            self.told(alone(("round", num(3), (*tries[:12], first, LEAVE))))

    def test_tries_in_the_last_of_tries(self):
        step = give(9)
        for at in range(6):
            step = ("try", (give(at), end(at)), (0, (fault(at),)), (step,))
        self.told(alone(step))
        self.told(alone(("round", num(2), step[3])))

    def test_lists_may_be_changed(self):
        program = [(0, 1, (say(1), give(2)))] * 2
        machines = made(program)
        kept = deepcopy(machines)
        self.assertIsNot(machines[0][2], machines[1][2])
        machines[0][2].clear()
        self.assertEqual(machines[1], kept[1])
        machines.clear()
        self.assertEqual(made(program), kept)
        self.assertEqual(program, [(0, 1, (say(1), give(2)))] * 2)

    def test_changed_machines_are_run_by_themselves(self):
        program = [(0, 1, (say(1), end(2)))]
        machines = made(program)
        machines[0][2][0] = ((("say", num(7)),), *machines[0][2][0][1:])
        self.assertEqual(ran(machines, 0, (), [ask()]), [((7,), ("end", 2))])
        self.assertEqual(ran(made(program), 0, (), [ask()]), [((1,), ("end", 2))])

    def test_the_program_is_the_same_behind_it(self):
        for seed in range(30):
            program = Chance(seed).program()
            before = deepcopy(program)
            made(program)
            matched(program, 0, len(program) - 1)
            most_rooms(program, 0)
            self.assertEqual(program, before)


class MostRooms(unittest.TestCase):
    def test_steps(self):
        self.assertEqual(most_rooms(alone(), 0), 2)
        for step in (say(1), give(1), fault(1), end(1), ("set", 0, num(1)), ("if", num(1), (), ())):
            self.assertEqual(most_rooms(alone(step), 0), 4)
        self.assertEqual(most_rooms([(0, 1, (("hand", 1, (), 0),)), (0, 1, ())], 0), 4)
        self.assertEqual(most_rooms(alone(("round", num(1), ())), 0), 10)
        self.assertEqual(most_rooms(alone(("try", (), None, ())), 0), 20)
        self.assertEqual(most_rooms(alone(("try", (), (0, ()), ())), 0), 20)
        self.assertEqual(most_rooms(alone(*[say(1)] * 40), 0), 82)

    def test_steps_within_others(self):
        self.assertEqual(most_rooms(alone(within(say(1), 6)), 0), 16)
        self.assertEqual(most_rooms(alone(("round", num(1), (say(1), LEAVE))), 0), 14)
        self.assertEqual(most_rooms(alone(("if", num(1), (("round", num(1), ()),), (("try", (), None, ()),))), 0), 30)
        tries = ("try", (("try", (), None, ()),), (0, (("round", num(1), ()),)), (("try", (say(1),), None, ()),))
        self.assertEqual(most_rooms(alone(tries), 0), 2 + 3 * 18 + 8 + 2)

    def test_a_work_by_its_number(self):
        program = [(0, 1, ()), (0, 1, (say(1),)), (0, 1, (("try", (), None, ()),))]
        told = [most_rooms(program, work) for work in range(3)]
        self.assertEqual(told, [2, 4, 20])
        self.assertTrue(all(type(many) is int for many in told))

    def test_refusals(self):
        for work in (-1, 2, 3, 999):
            with self.assertRaises(BadAsk):
                most_rooms([(0, 1, ())] * 2, work)
            with self.assertRaises(BadWork):
                most_rooms([(0, 1, ()), (0, 9, ())], work)


class Matched(unittest.TestCase):
    def pair(self, one, other):
        program = [one, other]
        told = matched(program, 0, 1)
        self.assertIs(matched(program, 1, 0), told)
        self.assertIs(matched(program, 0, 0), True)
        self.assertIs(matched(program, 1, 1), True)
        machines = made(program)
        self.assertIs(told, machines[0] == machines[1])
        return told

    def test_the_same(self):
        for steps in ((), (say(1),), (("try", (give(1),), (0, (say(2),)), (("round", num(3), (give(4),)),)),)):
            self.assertIs(self.pair((0, 2, steps), (0, 2, steps)), True)
        self.assertIs(self.pair((0, 1, (end(1),)), (0, 1, (end(1), say(2)))), True)
        self.assertIs(self.pair((0, 1, ()), (0, 1, (end(0),))), True)

    def test_not_the_same(self):
        for one, other in (
            ((0, 1, (say(1),)), (0, 1, (say(2),))), ((0, 1, (say(1),)), (0, 1, (say(1), say(1)))),
            ((0, 1, ()), (1, 1, ())), ((0, 1, (give(1, 0),)), (0, 1, (give(1),))), ((0, 1, ()), (0, 1, (end(1),))),
            ((0, 1, (("try", (give(1),), (0, ()), ()),)), (0, 1, (("try", (give(1),), None, ()),))),
            ((0, 2, (("try", (give(1),), (0, ()), ()),)), (0, 2, (("try", (give(1),), (1, ()), ()),))),
            ((0, 1, (fault(1),)), (0, 1, (end(1),))),
        ):
            self.assertIs(self.pair(one, other), False)

    def test_handings_to_other_works(self):
        program = [(0, 1, (("hand", 2, (), 0),)), (0, 1, (("hand", 3, (), 0),)), (0, 1, ()), (0, 1, ())]
        self.assertIs(matched(program, 2, 3), True)
        self.assertIs(matched(program, 0, 1), False)
        self.assertIs(matched([program[0], (0, 1, (("hand", 2, (), 0),)), *program[2:]], 0, 1), True)

    def test_each_pair_by_chance(self):
        for seed in range(200):
            program = Chance(seed).program()
            machines = made(program)
            for one, other in product(range(len(program)), repeat=2):
                self.assertIs(matched(program, one, other), machines[one] == machines[other])

    def test_refusals(self):
        program = [(0, 1, ())] * 2
        for one, other in ((-1, 0), (0, -1), (2, 0), (0, 2), (1, 999), (999, 1), (5, 5)):
            with self.assertRaises(BadAsk):
                matched(program, one, other)
            with self.assertRaises(BadWork) as caught:
                matched([*program, (0, 9, ())], one, other)
            self.assertEqual(caught.exception.work, 2)


if __name__ == "__main__":
    unittest.main()
