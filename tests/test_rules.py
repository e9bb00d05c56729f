"""Each rule's counts, worked out by hand from the document's words."""

import unittest

from asking import ALL_RULES, c, codas, last_of, long_v, profile, rules, v

FIVE_LIGHT = [c(), v()] * 5
FIVE_SIZES = [1, 0] * 5
# Closed with a short vowel, open with a long one, open with a short one.
MIXED = [c(), v(), c(), c(), long_v(), c(), v()]
MIXED_SIZES = [1, 1, 1, 0, 1, 0]


class RuleTest(unittest.TestCase):
    def breaks(self, rule, sounds, row, wanted, closed_count=0):
        found = last_of(codas(closed_count), rules(rule), profile(sounds, row))
        self.assertEqual(found, [0, 1, wanted], (rule, sounds, row))

    def five(self, rule, marks, wanted):
        self.breaks(rule, FIVE_LIGHT, FIVE_SIZES + marks, wanted)


class SyllableRules(RuleTest):
    def test_0_no_consonant_before(self):
        self.breaks(0, [c(), v()], [1, 0, 11], 0)
        self.breaks(0, [v(), c(), v()], [0, 0, 1, 0, 11, 0], 1)
        self.breaks(0, [v(), c(), v()], [0, 1, 0, 0, 11, 0], 2)
        self.breaks(0, [v()] * 5, [0] * 10 + [11, 0, 0, 0, 0], 5)

    def test_1_a_consonant_behind(self):
        self.breaks(1, [v(), c(), v()], [0, 0, 1, 0, 11, 0], 0)
        self.breaks(1, [v(), c(), v()], [0, 1, 0, 0, 11, 0], 1)
        self.breaks(1, [v(), c(), c(), c()], [0, 3, 11], 1)
        self.breaks(1, [v(), c(), c(), v(), c()], [0, 2, 0, 1, 11, 0], 2)

    def test_2_two_or_more_on_a_side(self):
        self.breaks(2, [c(), v(), c()], [1, 1, 11], 0)
        self.breaks(2, [c(), c(), v()], [2, 0, 11], 1)
        self.breaks(2, [v(), c(), c()], [0, 2, 11], 1)
        self.breaks(2, [c(), c(), v(), c(), c()], [2, 2, 11], 2)
        self.breaks(2, [c(), c(), c(), v(), c(), c(), c()], [3, 3, 11], 2)
        self.breaks(2, [v(), c(), c(), c(), v()], [0, 1, 2, 0, 11, 0], 1)
        self.breaks(2, [v(), c(), c(), c(), c(), v()], [0, 2, 2, 0, 11, 0], 2)

    def test_3_loudness_before_the_vowel(self):
        self.breaks(3, [c(1), c(2), v(3)], [2, 0, 11], 0)
        self.breaks(3, [c(2), c(2), v(3)], [2, 0, 11], 1)
        self.breaks(3, [c(2), c(1), v(3)], [2, 0, 11], 1)
        self.breaks(3, [c(3), c(2), v(1)], [2, 0, 11], 2)
        self.breaks(3, [c(9), v(9)], [1, 0, 11], 1)

    def test_3_loudness_behind_the_vowel(self):
        self.breaks(3, [v(3), c(2), c(1)], [0, 2, 11], 0)
        self.breaks(3, [v(3), c(2), c(2)], [0, 2, 11], 1)
        self.breaks(3, [v(3), c(1), c(2)], [0, 2, 11], 1)
        self.breaks(3, [v(1), c(2), c(3)], [0, 2, 11], 2)
        self.breaks(3, [v(0), c(0)], [0, 1, 11], 1)

    def test_3_both_sides_and_all_syllables_are_added(self):
        self.breaks(3, [c(3), c(2), v(1), c(2), c(3)], [2, 2, 11], 4)
        # 5 then 5 before the first vowel; 4 then 6 before the second one.
        self.breaks(3, [c(5), v(5), c(4), c(6), v(5)], [1, 0, 2, 0, 11, 0], 1 + 1)
        # The same word parted otherwise: 5 then 4 is well behind, 6 then 5 isn't before.
        self.breaks(3, [c(5), v(5), c(4), c(6), v(5)], [1, 1, 1, 0, 11, 0], 1 + 1)
        # 5 then 4 is well behind, 4 then 6 isn't.
        self.breaks(3, [c(5), v(5), c(4), c(6), v(5)], [1, 2, 0, 0, 11, 0], 1 + 1)

    def test_3_neighbours_of_two_syllables_do_not_count(self):
        self.breaks(3, [v(5), v(9)], [0, 0, 0, 0, 11, 0], 0)
        self.breaks(3, [v(5), c(2), c(3), v(5)], [0, 1, 1, 0, 11, 0], 0)


class FootRules(RuleTest):
    def test_4_second_is_the_head(self):
        self.five(4, [4, 15, 0, 2, 3], 1)
        self.five(4, [4, 5, 4, 15, 0], 2)
        self.five(4, [1, 0, 0, 11, 1], 0)
        self.five(4, [2, 3, 12, 3, 1], 0)

    def test_5_first_is_the_head(self):
        self.five(5, [4, 15, 0, 2, 3], 1)
        self.five(5, [2, 3, 12, 3, 1], 2)
        self.five(5, [1, 0, 0, 11, 1], 0)
        self.five(5, [4, 5, 4, 15, 0], 0)

    def test_6_feet_of_one_light_syllable(self):
        self.five(6, [1, 0, 0, 11, 1], 3)
        self.five(6, [4, 15, 0, 2, 3], 0)
        self.breaks(6, MIXED, MIXED_SIZES + [11, 0, 1], 2)
        self.breaks(6, MIXED, MIXED_SIZES + [11, 0, 1], 1, closed_count=1)
        self.breaks(6, MIXED, MIXED_SIZES + [1, 11, 0], 1)
        self.breaks(6, MIXED, MIXED_SIZES + [1, 11, 0], 0, closed_count=1)

    def test_7_in_no_foot(self):
        self.five(7, [4, 15, 0, 2, 3], 1)
        self.five(7, [1, 0, 0, 11, 1], 2)
        self.five(7, [0, 0, 0, 0, 11], 4)
        self.five(7, [1, 1, 1, 1, 11], 0)

    def test_8_before_each_foot(self):
        self.five(8, [4, 15, 0, 2, 3], 0 + 3)
        self.five(8, [1, 0, 0, 11, 1], 0 + 3 + 4)
        self.five(8, [0, 12, 3, 4, 5], 1 + 3)
        self.five(8, [11, 1, 1, 1, 1], 0 + 1 + 2 + 3 + 4)

    def test_9_behind_each_foot(self):
        self.five(9, [4, 15, 0, 2, 3], 3 + 0)
        self.five(9, [1, 0, 0, 11, 1], 4 + 1 + 0)
        self.five(9, [0, 12, 3, 4, 5], 2 + 0)
        self.five(9, [11, 1, 1, 1, 1], 4 + 3 + 2 + 1 + 0)

    def test_10_before_the_main_foot(self):
        self.five(10, [4, 15, 0, 2, 3], 0)
        self.five(10, [1, 0, 0, 11, 1], 3)
        self.five(10, [0, 12, 3, 4, 5], 1)
        self.five(10, [0, 0, 4, 15, 0], 2)
        self.five(10, [4, 5, 0, 4, 15], 3)

    def test_11_behind_the_main_foot(self):
        self.five(11, [4, 15, 0, 2, 3], 3)
        self.five(11, [1, 0, 0, 11, 1], 1)
        self.five(11, [0, 12, 3, 4, 5], 2)
        self.five(11, [0, 0, 4, 15, 0], 1)
        self.five(11, [12, 3, 0, 2, 3], 3)

    def test_12_the_last_is_a_head(self):
        self.five(12, [4, 15, 0, 2, 3], 0)
        self.five(12, [1, 0, 0, 11, 1], 1)
        self.five(12, [0, 12, 3, 4, 5], 1)
        self.five(12, [1, 0, 0, 11, 0], 0)
        self.five(12, [0, 0, 0, 0, 11], 1)
        self.breaks(12, [v()], [0, 0, 11], 1)

    def test_13_heavy_that_is_no_head(self):
        self.five(13, [0, 0, 0, 0, 11], 0)
        self.breaks(13, MIXED, MIXED_SIZES + [0, 0, 11], 1)
        self.breaks(13, MIXED, MIXED_SIZES + [0, 0, 11], 2, closed_count=1)
        self.breaks(13, MIXED, MIXED_SIZES + [11, 0, 1], 1, closed_count=1)
        self.breaks(13, MIXED, MIXED_SIZES + [12, 3, 0], 1, closed_count=1)
        self.breaks(13, MIXED, MIXED_SIZES + [4, 15, 0], 0)
        self.breaks(13, MIXED, MIXED_SIZES + [4, 15, 0], 1, closed_count=1)

    def test_14_neighbours_that_are_both_heads(self):
        self.five(14, [4, 15, 0, 2, 3], 0)
        self.five(14, [1, 0, 0, 11, 1], 1)
        self.five(14, [1, 1, 1, 1, 11], 4)
        self.five(14, [4, 5, 12, 3, 1], 1)
        self.five(14, [11, 4, 5, 2, 3], 1)

    def test_15_neighbours_neither_of_which_is_a_head(self):
        self.five(15, [4, 15, 0, 2, 3], 0)
        self.five(15, [1, 0, 0, 11, 1], 1)
        self.five(15, [0, 12, 3, 4, 5], 1)
        self.five(15, [0, 0, 4, 15, 0], 2)
        self.five(15, [0, 0, 0, 0, 11], 3)


class AllRules(RuleTest):
    def test_all_sixteen_of_one_way(self):
        # Syllables ta.mwi:n.a: 1 and 0 consonants, 2 and 1, 0 and 0; the middle one is long.
        sounds = [c(1), v(9), c(3), c(6), long_v(8), c(4), v(9)]
        row = [1, 0, 2, 1, 0, 0] + [1, 12, 3]
        wanted = [1, 1, 1, 0, 0, 1, 1, 0, 0 + 1, 2 + 0, 1, 0, 0, 0, 1, 0]
        self.assertEqual(last_of(rules(*ALL_RULES), profile(sounds, row)), [0, 16, *wanted])
        backwards = tuple(reversed(ALL_RULES))
        self.assertEqual(last_of(rules(*backwards), profile(sounds, row)), [0, 16, *reversed(wanted)])


if __name__ == "__main__":
    unittest.main()
