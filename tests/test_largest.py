"""The largest words that may be handed in are answered by every call about words."""

import unittest

from asking import ALL_RULES, ask, best, bounding, c, codas, contenders, fitting, last_of, learn, long_v, many
from asking import profile, rows, rules, v

LARGEST = [v(7), c(2), long_v(8), c(3), v(5), c(6), long_v(9), c(1), c(4), v(6)]
WAYS = 7200
ROW = [0, 0, 1, 0, 1, 0, 1, 1, 1, 0] + [0, 1, 1, 11, 0]


class Largest(unittest.TestCase):
    def test_many(self):
        self.assertEqual(last_of(many(LARGEST)), [WAYS])

    def test_best_of_all_that_are_equal(self):
        answer = last_of(best(LARGEST))
        self.assertEqual(len(answer), 1 + WAYS * 16)
        found = rows(answer)
        self.assertEqual(found, sorted(found))
        self.assertEqual(len(found), WAYS)
        self.assertEqual({len(row) for row in found}, {15})

    def test_best_by_all_rules(self):
        found = rows(last_of(codas(1), rules(*ALL_RULES), best(LARGEST)))
        profiles = ask(codas(1), rules(*ALL_RULES), *[profile(LARGEST, row) for row in found])[2:]
        self.assertEqual(profiles, [profiles[0]] * len(found))
        some = rows(last_of(best(LARGEST)))[::200]
        for other in ask(codas(1), rules(*ALL_RULES), *[profile(LARGEST, row) for row in some])[2:]:
            self.assertLessEqual(profiles[0], other)

    def test_profile(self):
        # By hand: one vowel has nothing before it; one consonant stands behind; 6 then 9, 3 then 5, 2 then 8
        # and 4 then 6 rise, 9 then 1 falls; the feet are three alone, of which the second and fourth syllable are long.
        wanted = [1, 1, 0, 0, 0, 0, 1, 2, 1 + 2 + 3, 3 + 2 + 1, 3, 1, 0, 0, 2, 0]
        self.assertEqual(last_of(codas(1), rules(*ALL_RULES), profile(LARGEST, ROW)), [0, 16, *wanted])

    def test_bounding_and_contenders_agree(self):
        set_up = [codas(1), rules(*ALL_RULES)]
        free = rows(last_of(*set_up, contenders(LARGEST)))
        self.assertEqual(free, sorted(free))
        self.assertTrue(0 < len(free) < WAYS)
        some = rows(last_of(best(LARGEST)))[::200]
        found = ask(*set_up, *[bounding(LARGEST, row) for row in some])[2:]
        for row, answer in zip(some, found):
            self.assertEqual(row in free, answer == [0], row)
            rows(answer)

    def test_contenders_without_rules(self):
        self.assertEqual(last_of(contenders(LARGEST))[0], WAYS)

    def test_learn_from_ten(self):
        told = [(LARGEST, row) for row in rows(last_of(codas(1), rules(*ALL_RULES), best(LARGEST)))][:1] * 10
        ranks = rows(last_of(codas(1), rules(*reversed(ALL_RULES)), learn(*told)))
        order = [rule for rank in ranks for rule in rank]
        self.assertEqual(sorted(order), list(ALL_RULES))
        self.assertIn(told[0][1], rows(last_of(codas(1), rules(*order), best(LARGEST))))

    def test_fitting_of_ten(self):
        in_use = (13, 0, 7, 12, 9)
        told = [(LARGEST, row) for row in rows(last_of(codas(1), rules(*in_use), best(LARGEST)))][:1] * 10
        orders = rows(last_of(codas(1), rules(*in_use), fitting(*told)))
        self.assertEqual(orders[0], list(in_use))
        for order in orders:
            self.assertIn(told[0][1], rows(last_of(codas(1), rules(*order), best(LARGEST))))

    def test_a_whole_line_of_calls(self):
        told = (LARGEST, ROW)
        found = ask(codas(1), *[rules(*ALL_RULES), learn(*[told] * 10), contenders(LARGEST)] * 5)
        self.assertEqual(found[1:4] * 5, found[1:])


if __name__ == "__main__":
    unittest.main()
