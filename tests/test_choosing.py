"""Points 4 and 5: best, contenders, profile, bounding."""

import unittest

from asking import ALL_RULES, MARKS_OF_TWO, ask, best, bounding, c, codas, contenders, last_of, listed, long_v
from asking import profile, rows, rules, v

TWO_OPEN = [c(), v(), c(), v()]
NO_WORDS = ([], [c()], [v()] * 6, [v()] + [c()] * 10, [v(), (3, 1)], [v(10)])


class Best(unittest.TestCase):
    def test_with_no_rules_all_ways_are_best(self):
        found = rows(last_of(best(TWO_OPEN)))
        self.assertEqual(found, [sizes + marks for sizes in ([1, 0, 1, 0], [1, 1, 0, 0]) for marks in MARKS_OF_TWO])

    def test_one_rule(self):
        self.assertEqual(last_of(rules(0), best(TWO_OPEN)), listed([[1, 0, 1, 0] + row for row in MARKS_OF_TWO]))

    def test_equal_ones_are_parted_by_the_next_rule(self):
        open_rows = [[1, 0, 1, 0] + marks for marks in ([1, 11], [11, 1], [12, 3])]
        self.assertEqual(last_of(rules(0, 7, 4), best(TWO_OPEN)), listed(open_rows))
        self.assertEqual(last_of(rules(0, 7, 4, 6), best(TWO_OPEN)), [1, 6, 1, 0, 1, 0, 12, 3])

    def test_a_higher_rule_counts_more_than_all_lower_ones(self):
        # A foot of two spares 6, 7 and 12, but where 5 and 4 stand ahead the last rules don't matter.
        self.assertEqual(last_of(rules(0, 6, 7, 12, 5, 4), best(TWO_OPEN)), [1, 6, 1, 0, 1, 0, 12, 3])
        self.assertEqual(last_of(rules(0, 5, 4, 12, 6, 7), best(TWO_OPEN)), [1, 6, 1, 0, 1, 0, 11, 0])

    def test_the_number_of_breaks_counts_and_not_only_whether(self):
        # Three vowels in a row: two feet at least leave no syllable out, a foot of two and one stand least far.
        found = rows(last_of(rules(7, 8), best([v(), v(), v()])))
        self.assertEqual([row[6:] for row in found], [[1, 4, 15], [1, 12, 3], [11, 2, 3], [11, 4, 5]])

    def test_codas_matter_from_then_on(self):
        closed = [c(), v(), c(), c(), v()]
        in_use = rules(1, 13, 12, 7, 4, 0)
        self.assertEqual(ask(in_use, best(closed), codas(1), best(closed))[1::2], [[1, 6, 1, 0, 2, 0, 12, 3]] * 2)
        heavy_last = [c(), v(), c(), v(), c()]
        found = ask(rules(0, 13, 12, 7, 4), best(heavy_last), codas(1), best(heavy_last))
        self.assertEqual(found[1], [1, 6, 1, 0, 1, 1, 12, 3])
        # The last syllable is heavy now, and to be a head counts more than that the last one be none.
        self.assertEqual(found[3], listed([[1, 0, 1, 1, 1, 11], [1, 0, 1, 1, 11, 1]]))


class Profile(unittest.TestCase):
    def test_no_rule_in_use(self):
        self.assertEqual(last_of(profile(TWO_OPEN, [1, 0, 1, 0, 12, 3])), [0, 0])

    def test_in_the_order_of_the_rules(self):
        row = [1, 1, 0, 0, 12, 3]
        self.assertEqual(last_of(rules(5, 4, 1, 0, 11), profile(TWO_OPEN, row)), [0, 5, 1, 0, 1, 1, 0])
        self.assertEqual(last_of(rules(0, 11, 4, 5, 1), profile(TWO_OPEN, row)), [0, 5, 1, 0, 0, 1, 1])

    def test_all_sixteen(self):
        row = [1, 1, 0, 0, 0, 11]
        wanted = [1, 1, 0, 0, 0, 0, 1, 1, 1, 0, 1, 0, 1, 0, 0, 0]
        self.assertEqual(last_of(rules(*ALL_RULES), profile(TWO_OPEN, row)), [0, 16, *wanted])
        wanted[13] = 1
        self.assertEqual(last_of(rules(*ALL_RULES), codas(1), profile(TWO_OPEN, row)), [0, 16, *wanted])


class Bounding(unittest.TestCase):
    def test_those_that_break_none_more_and_one_less(self):
        both = listed([[1, 0, 1, 0, 11, 0], [1, 1, 0, 0, 11, 0]])
        self.assertEqual(last_of(rules(5, 12), bounding(TWO_OPEN, [1, 0, 1, 0, 12, 3])), both)
        self.assertEqual(last_of(rules(12, 5), bounding(TWO_OPEN, [1, 1, 0, 0, 4, 15])), both)

    def test_equal_ones_do_not_bound(self):
        self.assertEqual(last_of(rules(5, 12), bounding(TWO_OPEN, [1, 0, 1, 0, 11, 0])), [0])

    def test_with_no_rules_none_bounds(self):
        self.assertEqual(last_of(bounding(TWO_OPEN, [1, 0, 1, 0, 11, 0])), [0])

    def test_to_be_better_is_not_to_bound(self):
        # The foot of two whose first is the head is better by rule 4, but breaks rule 5 more often.
        found = rows(last_of(rules(4, 5, 0), bounding([v(), v()], [0, 0, 0, 0, 4, 15])))
        self.assertEqual([row[4:] for row in found], [[0, 11], [1, 11], [11, 0], [11, 1]])


class Contenders(unittest.TestCase):
    def test_with_no_rules_all_ways_contend(self):
        self.assertEqual(ask(contenders(TWO_OPEN))[0], ask(best(TWO_OPEN))[0])

    def test_one_profile_bounds_all_others(self):
        both = listed([[1, 0, 1, 0, 11, 0], [1, 1, 0, 0, 11, 0]])
        self.assertEqual(last_of(rules(5, 12), contenders(TWO_OPEN)), both)

    def test_profiles_that_do_not_bound_each_other(self):
        found = rows(last_of(rules(8, 7), contenders([v(), v(), v()])))
        marks = [[1, 4, 15], [1, 12, 3], [4, 15, 0], [11, 2, 3], [11, 4, 5], [12, 3, 0]]
        self.assertEqual(found, [[0] * 6 + row for row in marks])

    def test_the_order_of_rules_does_not_matter(self):
        sounds = [v(), c(), c(), long_v(), c(), v()]
        found = [last_of(rules(*order), contenders(sounds)) for order in ((3, 7, 4, 9), (9, 4, 7, 3), (4, 9, 3, 7))]
        self.assertEqual(found, [found[0]] * 3)

    def test_are_those_that_none_is_told_to_bound(self):
        sounds = [v(), c(4), v(), c(3), long_v(2)]
        in_use = (13, 0, 1, 7, 6, 12)
        ways = rows(last_of(best(sounds)))
        free = []
        for row in ways:
            if last_of(codas(1), rules(*in_use), bounding(sounds, row)) == [0]:
                free.append(row)
        self.assertEqual(last_of(codas(1), rules(*in_use), contenders(sounds)), listed(free))
        self.assertTrue(0 < len(free) < len(ways))


class WrongInputs(unittest.TestCase):
    def test_no_word(self):
        for sounds in NO_WORDS:
            found = ask(best(sounds), contenders(sounds), profile(sounds, [0, 0, 11]), bounding(sounds, [0, 0, 11]))
            self.assertEqual(found, [[-1]] * 4, sounds)

    def test_no_way_of_the_word(self):
        wrong = [
            [], [1, 0, 1, 0], [12, 3], [1, 0, 1, 0, 12], [1, 0, 1, 0, 12, 3, 0], [0, 0, 1, 0, 12, 3],
            [1, 0, 0, 0, 12, 3], [1, 2, 0, 0, 12, 3], [1, 0, 1, 1, 12, 3], [1, 1, 1, 0, 12, 3],
            [1, 0, 1, 0, 0, 0], [1, 0, 1, 0, 1, 1], [1, 0, 1, 0, 2, 3], [1, 0, 1, 0, 4, 5],
            [1, 0, 1, 0, 11, 11], [1, 0, 1, 0, 12, 13], [1, 0, 1, 0, 14, 15], [1, 0, 1, 0, 2, 13],
            [1, 0, 1, 0, 14, 5], [1, 0, 1, 0, 12, 5], [1, 0, 1, 0, 4, 13], [1, 0, 1, 0, 12, 0],
            [1, 0, 1, 0, 3, 12], [1, 0, 1, 0, 11, 3], [1, 0, 1, 0, 10, 11], [1, 0, 1, 0, 11, 6],
            [1, 0, 1, 0, 21, 0], [1, 0, 1, 0, 4294967295, 11], [4294967295] * 60, [0] * 60,
        ]
        for row in wrong:
            self.assertEqual(ask(profile(TWO_OPEN, row), bounding(TWO_OPEN, row)), [[-3], [-3]], row)

    def test_too_many_consonants_on_a_side(self):
        sounds = [v()] + [c()] * 4 + [v()]
        for sizes in ([0, 0, 4, 0], [0, 4, 0, 0]):
            self.assertEqual(last_of(profile(sounds, sizes + [12, 3])), [-3])
        self.assertEqual(last_of(rules(1), profile(sounds, [0, 3, 1, 0, 12, 3])), [0, 1, 1])

    def test_a_word_without_ways_has_none_to_tell(self):
        sounds = [c()] * 4 + [v()]
        self.assertEqual(ask(profile(sounds, [4, 0, 11]), bounding(sounds, [4, 0, 11])), [[-3], [-3]])

    def test_no_word_goes_before_no_way(self):
        self.assertEqual(ask(profile([c()], [9, 9]), bounding([v(10)], [9, 9])), [[-1], [-1]])


if __name__ == "__main__":
    unittest.main()
