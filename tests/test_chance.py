"""Programs by chance are played as Python's own generators play them."""

import unittest

from pausewright.walking import played
from pausewright.works import need_program
from tests import oracle
from tests.chance import Chance


class ByChance(unittest.TestCase):
    def test_played_alike(self):
        outcomes = set()
        for seed in range(1500):
            chance = Chance(seed)
            program = chance.program()
            need_program(program)
            for work, (params, _, _) in enumerate(program):
                numbers, deeds = chance.numbers(params), chance.deeds()
                told = played(program, work, numbers, deeds)
                self.assertEqual(told, oracle.played(program, work, numbers, deeds), (seed, work, deeds))
                outcomes.update(outcome[0] for _, outcome in told)
        self.assertEqual(sorted(outcomes), ["end", "fault", "gift", "over", "shut", "stubborn"])


if __name__ == "__main__":
    unittest.main()
