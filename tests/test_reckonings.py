"""Points 2 and 3: what reckonings come to, and slots."""

import unittest

from pausewright.walking import played
from tests.trees import NO_PART, SAY0, alone, ask, deep_reckoning, give, num, say, slot


def came_to(e, *numbers, slots=4):
    """The number that a reckoning comes to, or None where the fault 0 comes."""
    program = alone(("say", e), SAY0, params=len(numbers), slots=slots)
    told = played(program, 0, numbers, [ask()])
    if told == [((), ("fault", 0))]:
        return None
    [((n, zero), outcome)] = told
    assert (zero, outcome) == (0, ("end", 0)) and type(n) is int, told
    return n


class Reckonings(unittest.TestCase):
    def two(self, word, *rows):
        for one, other, n in rows:
            self.assertEqual(came_to((word, num(one), num(other))), n, (word, one, other))
            self.assertEqual(came_to((word, slot(0), slot(1)), one, other), n, (word, one, other))

    def test_num(self):
        for n in (0, 1, 10, 500, 998, 999):
            self.assertEqual(came_to(num(n)), n)

    def test_slot(self):
        self.assertEqual([came_to(slot(k), 7, 999) for k in range(4)], [7, 999, 0, 0])

    def test_plus(self):
        self.two("plus", (0, 0, 0), (2, 3, 5), (500, 499, 999), (500, 500, 0), (999, 1, 0), (999, 999, 998))

    def test_less(self):
        self.two("less", (0, 0, 0), (5, 3, 2), (3, 5, 998), (0, 1, 999), (0, 999, 1), (999, 999, 0), (999, 0, 999))

    def test_times(self):
        self.two("times", (0, 999, 0), (6, 7, 42), (999, 1, 999), (999, 999, 1), (500, 2, 0), (50, 21, 50))

    def test_part(self):
        self.two("part", (7, 2, 3), (8, 2, 4), (1, 2, 0), (0, 5, 0), (999, 1, 999), (999, 999, 1), (998, 999, 0))

    def test_part_by_0_is_the_fault_0(self):
        self.two("part", (1, 0, None), (0, 0, None), (999, 0, None))
        for word in ("plus", "less", "times", "part", "below", "same"):
            self.assertIsNone(came_to((word, NO_PART, num(1))))
            self.assertIsNone(came_to((word, num(1), NO_PART)))
            self.assertIsNone(came_to((word, NO_PART, NO_PART)))
        # The reckoned 0, too.
        self.assertIsNone(came_to(("part", num(1), ("plus", num(999), num(1)))))
        # A times by 0 does not spare the part.
        self.assertIsNone(came_to(("times", num(0), NO_PART)))

    def test_below(self):
        self.two("below", (0, 0, 0), (0, 1, 1), (1, 0, 0), (998, 999, 1), (999, 999, 0), (999, 998, 0))

    def test_same(self):
        self.two("same", (0, 0, 1), (0, 1, 0), (1, 0, 0), (999, 999, 1), (998, 999, 0))

    def test_the_first_and_the_second(self):
        less = ("less", num(9), num(4))
        self.assertEqual(came_to(("less", less, num(1))), 4)
        self.assertEqual(came_to(("less", num(1), less)), 996)
        self.assertEqual(came_to(("part", ("times", num(5), num(5)), ("plus", num(1), num(2)))), 8)

    def test_the_rest_is_taken_at_each_place(self):
        self.assertEqual(came_to(("part", ("plus", num(600), num(600)), num(2))), 100)
        self.assertEqual(came_to(("below", ("times", num(100), num(10)), num(1))), 1)

    def test_three_within_one_another(self):
        self.assertEqual(came_to(deep_reckoning(3)), 4)


class SlotsAtFirst(unittest.TestCase):
    def test_params_and_zeros(self):
        for params in (0, 1, 2):
            for slots in range(max(1, params), 5):
                steps = [("say", slot(k)) for k in range(slots)]
                numbers = (7, 999)[:params]
                told = played(alone(*steps, params=params, slots=slots), 0, numbers, [ask(5)])
                self.assertEqual(told, [(numbers + (0,) * (slots - params), ("end", 0))])

    def test_slots_are_new_in_each_play(self):
        program = alone(("say", slot(1)), ("set", 1, num(5)), ("say", slot(1)), slots=2)
        for _ in range(2):
            self.assertEqual(played(program, 0, (), [ask()]), [((0, 5), ("end", 0))])

    def test_set(self):
        program = alone(
            ("set", 1, ("plus", slot(0), num(1))), ("set", 0, slot(1)), ("say", slot(0)), ("say", slot(1)),
            params=1, slots=2,
        )
        self.assertEqual(played(program, 0, (999,), [ask()]), [((0, 0), ("end", 0))])
        self.assertEqual(played(program, 0, (4,), [ask()]), [((5, 5), ("end", 0))])

    def test_a_fault_leaves_the_slot(self):
        program = alone(("set", 0, num(8)), ("try", (("set", 0, NO_PART),), (1, ()), ()), ("say", slot(0)), give(1))
        self.assertEqual(played(program, 0, (), [ask()]), [((8,), ("gift", 1))])

    def test_words_in_their_order(self):
        self.assertEqual(played(alone(say(3), say(1), say(3)), 0, (), [ask()]), [((3, 1, 3), ("end", 0))])


if __name__ == "__main__":
    unittest.main()
