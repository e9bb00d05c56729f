"""Points 1 to 3: begins, codas, rules; and that a refusal leaves all as it was."""

import unittest

from asking import ALL_RULES, ask, begins, best, bounding, c, codas, contenders, fitting, last_of, learn, long_v
from asking import many, profile, rules, v

# One closed syllable that's a foot alone: rule 6 is broken unless consonants behind count.
CLOSED = [c(), v(), c()]
CLOSED_ROW = [1, 1, 11]
LIGHT_FOOT = profile(CLOSED, CLOSED_ROW)


class Beginning(unittest.TestCase):
    def test_no_rules_are_in_use(self):
        self.assertEqual(last_of(LIGHT_FOOT), [0, 0])

    def test_consonants_behind_do_not_count(self):
        self.assertEqual(last_of(rules(6), LIGHT_FOOT), [0, 1, 1])


class Begins(unittest.TestCase):
    def test_answers_nought(self):
        self.assertEqual(last_of(begins()), [0])

    def test_no_rules_are_in_use_behind_it(self):
        self.assertEqual(ask(rules(6, 7), begins(), LIGHT_FOOT), [[2], [0], [0, 0]])

    def test_consonants_behind_do_not_count_behind_it(self):
        self.assertEqual(last_of(codas(1), begins(), rules(6), LIGHT_FOOT), [0, 1, 1])


class Codas(unittest.TestCase):
    def test_answers_nought(self):
        self.assertEqual(ask(codas(0), codas(1)), [[0], [0]])

    def test_one_makes_heavy(self):
        self.assertEqual(last_of(rules(6), codas(1), LIGHT_FOOT), [0, 1, 0])

    def test_nought_takes_it_back(self):
        self.assertEqual(last_of(rules(6), codas(1), codas(0), LIGHT_FOOT), [0, 1, 1])

    def test_open_syllables_stay_light(self):
        self.assertEqual(last_of(codas(1), rules(6), profile([c(), v()], [1, 0, 11])), [0, 1, 1])

    def test_long_vowels_are_heavy_either_way(self):
        open_long = profile([c(), long_v()], [1, 0, 11])
        self.assertEqual(ask(rules(6), open_long, codas(1), open_long), [[1], [0, 1, 0], [0], [0, 1, 0]])

    def test_stay_when_rules_change(self):
        self.assertEqual(last_of(codas(1), rules(7), LIGHT_FOOT, rules(6), LIGHT_FOOT), [0, 1, 0])

    def test_above_one_is_refused(self):
        for number in (2, 3, 4294967295):
            self.assertEqual(last_of(codas(number)), [-1])

    def test_refused_leaves_all_as_it_was(self):
        self.assertEqual(last_of(rules(6), codas(1), codas(2), LIGHT_FOOT), [0, 1, 0])
        self.assertEqual(last_of(rules(6), codas(2), LIGHT_FOOT), [0, 1, 1])


class Rules(unittest.TestCase):
    def test_answers_how_many(self):
        self.assertEqual(ask(rules(3), rules(15, 0), rules(*ALL_RULES)), [[1], [2], [16]])

    def test_stand_in_the_order_told(self):
        # Of the closed light foot rules 1, 6 and 12 are broken once, the others never.
        self.assertEqual(last_of(rules(6, 0, 12), LIGHT_FOOT), [0, 3, 1, 0, 1])
        self.assertEqual(last_of(rules(0, 12, 6), LIGHT_FOOT), [0, 3, 0, 1, 1])

    def test_newer_ones_take_the_place_of_all_older(self):
        self.assertEqual(last_of(rules(6, 12), rules(0), LIGHT_FOOT), [0, 1, 0])

    def test_fifteen_is_the_last(self):
        self.assertEqual(ask(rules(15), rules(16), rules(15, 16)), [[1], [-1], [-1]])

    def test_refusals(self):
        for wrong in ([], [1, 1], [0, 3, 5, 0], [16], [0, 4294967295], list(range(17)), [2] * 60):
            self.assertEqual(last_of(rules(*wrong)), [-1], wrong)

    def test_refused_leaves_all_as_it_was(self):
        for wrong in ([], [7, 7], [7, 16]):
            found = ask(rules(6, 12), codas(1), rules(*wrong), LIGHT_FOOT)
            self.assertEqual(found[2:], [[-1], [0, 2, 0, 1]], wrong)


class Refused(unittest.TestCase):
    def test_every_refused_call_leaves_all_as_it_was(self):
        no_word = [c()]
        wrong_row = [1, 1, 1]
        calls = [
            many(no_word), best(no_word), contenders(no_word), profile(no_word, []), bounding(no_word, []),
            profile(CLOSED, wrong_row), bounding(CLOSED, wrong_row), learn((no_word, [])), fitting((no_word, [])),
            learn((CLOSED, wrong_row)), fitting((CLOSED, wrong_row)), fitting((CLOSED, CLOSED_ROW)),
        ]
        refusals = [-1, -1, -1, -1, -1, -3, -3, -1, -1, -3, -3, -4]
        in_use = rules(12, 6, 1, 0, 2, 3)
        for call, refusal in zip(calls, refusals):
            found = ask(codas(1), in_use, call, LIGHT_FOOT)
            self.assertEqual(found[2:], [[refusal], [0, 6, 1, 0, 1, 0, 0, 0]], call)


if __name__ == "__main__":
    unittest.main()
