import unittest

from kinds import Checks, is_integer, wrong_values
from takenup.errors import BadMap, BadPaper, NoRegister
from takenup.machines import Machine
from takenup.maps import Shift
from takenup.papers import Paper
from takenup.powers import Rounds, pair_rounds, rounds
from test_maps import random_shifts

SHIFTS = random_shifts(71, 25) + random_shifts(72, 10, one_to_one=True) + random_shifts(73, 5, most=10 ** 40)


def pulled_back(shift, one, other, times):
    """The pairs and numbers to which a difference is pulled back by 0, 1, 2, .. turns."""
    rows, number = [((one, other), 0)], 0
    for _ in range(times):
        one, other, more = shift.pulled(one, other)
        number += more
        rows.append((("=", "=") if one == other else (one, other), number))
    return rows


class RoundsTest(Checks, unittest.TestCase):
    def test_the_paper(self):
        told = Rounds(gain=-5, lead=1, length=2)
        self.assertEqual((1, 2, -5), (told.lead, told.length, told.gain))
        self.assertEqual(("rounds", (1, 2, -5)), (told.word, told.parts))
        self.assertTrue(told == Paper("rounds", 1, 2, -5) and told == Rounds(1, 2, -5) and told)
        self.assertFalse(told == Rounds(1, 2, 5))
        self.assertEqual((1, (2,)), Rounds([1, [2]], None, None).lead)
        self.assertIn("folded", vars(Rounds))

    def test_folded(self):
        told = Rounds(3, 4, -7)
        for count in range(30):
            few, more = told.folded(count)
            self.assertTrue(few == count and more == 0 if count < 3 else 3 <= few < 7 and (count - few) % 4 == 0)
            self.assertEqual(-7 * ((count - few) // 4), more)
        self.assertEqual((3 + (10 ** 60 - 3) % 4, -7 * ((10 ** 60 - 3) // 4)), told.folded(10 ** 60))
        for value in wrong_values(lambda value: is_integer(value) and value >= 0):
            self.check_error(BadPaper, {"part": "count"}, told.folded, value)

    def test_rounds_beside_joining_one_by_one(self):
        for shift in SHIFTS:
            powers = [shift.power(n) for n in range(18)]
            for name in shift.registers:
                told = rounds(shift, name)
                sources = [one[name].source for one in powers]
                repeats = [
                    (lead, length) for lead in range(9) for length in range(1, 9)
                    if sources[lead] == sources[lead + length]
                ]
                self.assertEqual(repeats[0], (told.lead, told.length))
                for n in range(told.lead, 18 - told.length):
                    gain = powers[n + told.length][name].number - powers[n][name].number
                    self.assertEqual((told.gain, sources[n]), (gain, sources[n + told.length]))
                for n in range(18):
                    few, more = told.folded(n)
                    self.assertEqual(powers[few][name] + more, powers[n][name])

    def test_great_powers_by_rounds(self):
        for shift in SHIFTS:
            for n in (10 ** 12, 10 ** 12 + 1, 10 ** 60 + 17):
                power = shift.power(n)
                for name in shift.registers:
                    few, more = rounds(shift, name).folded(n)
                    self.assertEqual(shift.power(few)[name] + more, power[name])

    def test_pair_rounds_beside_pulling_one_by_one(self):
        for shift in SHIFTS:
            for one in shift.registers:
                for other in shift.registers:
                    told = pair_rounds(shift, one, other)
                    rows = pulled_back(shift, one, other, 90)
                    if one == other:
                        rows[0] = (("=", "="), 0)
                    pairs = [pair for pair, _ in rows]
                    lead = next(at for at, pair in enumerate(pairs) if pair in pairs[at + 1:])
                    length = pairs[lead + 1:].index(pairs[lead]) + 1
                    gain = rows[lead + length][1] - rows[lead][1]
                    self.assertEqual(Rounds(lead, length, gain), told)
                    if one == other:
                        self.assertEqual(Rounds(0, 1, 0), told)

    def test_great_powers_by_pair_rounds(self):
        for shift in SHIFTS:
            for n in (10 ** 12, 10 ** 60 + 17):
                power = shift.power(n)
                for one in shift.registers:
                    for other in shift.registers:
                        few, more = pair_rounds(shift, one, other).folded(n)
                        first, second, number = shift.power(few).pulled(one, other)
                        great = power.pulled(one, other)
                        self.assertEqual(number + more, great[2])
                        self.assertTrue((first, second) == great[:2] or first == second and great[0] == great[1])

    def test_wrong_arguments(self):
        for value in wrong_values(lambda value: isinstance(value, Shift)):
            self.check_error(BadMap, {"part": "shift"}, rounds, value, "q")
            self.check_error(BadMap, {"part": "shift"}, pair_rounds, value, "q", "q")
        shift = Shift(Machine(1, 1))
        for value in wrong_values(lambda value: isinstance(value, str) and value in shift.registers):
            self.check_error(NoRegister, {"name": value}, rounds, shift, value)
            self.check_error(NoRegister, {"name": value}, pair_rounds, shift, value, "z9")
            self.check_error(NoRegister, {"name": value}, pair_rounds, shift, "p", value)


if __name__ == "__main__":
    unittest.main()
