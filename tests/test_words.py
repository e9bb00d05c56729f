"""Point 4: which words are taken, how many ways they have, and their order."""

import itertools
import unittest

from asking import MARKS_OF_TWO, ask, best, c, contenders, last_of, listed, long_v, many, rows, v

FOOTINGS = {1: 1, 2: 6, 3: 24, 4: 88, 5: 300}


class TakenWords(unittest.TestCase):
    def refused(self, sounds):
        self.assertEqual(ask(many(sounds), best(sounds), contenders(sounds)), [[-1], [-1], [-1]], sounds)

    def taken(self, sounds, ways):
        self.assertEqual(last_of(many(sounds)), [ways], sounds)

    def test_how_many_sounds(self):
        self.refused([])
        self.taken([v()], 1)
        self.taken([c(), c(), c(), v(), c(), c(), c(), v(), c(), c()], 4 * 6)
        self.refused([c(), c(), c(), v(), c(), c(), c(), v(), c(), c(), c()])
        self.refused([v()] + [c()] * 59)

    def test_how_many_vowels(self):
        self.refused([c()])
        self.refused([c(), c(), c()])
        for vowels, ways in FOOTINGS.items():
            self.taken([v()] * vowels, ways)
        self.refused([v()] * 6)
        self.refused([long_v()] * 10)
        self.refused([v(), long_v(), v(), long_v(), v(), long_v()])

    def test_kinds(self):
        for kind, ways in ((0, 1), (1, 6), (2, 6)):
            self.taken([v(), (kind, 5)], ways)
        for kind in (3, 4, 4294967295):
            self.refused([v(), (kind, 5)])
            self.refused([(kind, 5), v()])

    def test_loudness(self):
        for kind in (0, 1, 2):
            self.taken([v(), (kind, 0)], 6 if kind else 1)
            self.taken([v(), (kind, 9)], 6 if kind else 1)
            self.refused([v(), (kind, 10)])
            self.refused([(kind, 4294967295), v()])


class HowManyWays(unittest.TestCase):
    def test_consonants_between_two_vowels(self):
        for consonants, splits in enumerate((1, 2, 3, 4, 3, 2, 1, 0, 0)):
            sounds = [v()] + [c()] * consonants + [v()]
            self.assertEqual(last_of(many(sounds)), [splits * 6], consonants)

    def test_consonants_at_the_ends(self):
        for consonants, ways in ((0, 1), (1, 1), (2, 1), (3, 1), (4, 0), (9, 0)):
            self.assertEqual(last_of(many([c()] * consonants + [v()])), [ways], consonants)
            self.assertEqual(last_of(many([v()] + [c()] * consonants)), [ways], consonants)
        self.assertEqual(last_of(many([c(), c(), c(), v(), c(), c(), c()])), [1])

    def test_splits_of_all_gaps_are_free_of_each_other(self):
        sounds = [v(), c(), v(), c(), c(), v()]
        self.assertEqual(last_of(many(sounds)), [2 * 3 * 24])

    def test_rules_and_codas_do_not_matter(self):
        sounds = [c(), v(), c(), v(), c()]
        self.assertEqual(ask(many(sounds), [2, 2, 0, 7], [1, 1], many(sounds)), [[12], [2], [0], [12]])

    def test_a_word_without_a_way(self):
        sounds = [c(), c(), c(), c(), v()]
        self.assertEqual(ask(many(sounds), best(sounds), contenders(sounds)), [[0], [0], [0]])
        self.assertEqual(ask([2, 1, 0], many(sounds), best(sounds), contenders(sounds)), [[1], [0], [0], [0]])

    def test_no_word_has_more_than_the_largest(self):
        calls = []
        for kinds in itertools.product((0, 1), repeat=10):
            if 4 <= sum(kinds) <= 5:
                calls.append(many([(kind, 1) for kind in kinds]))
        counts = [ask(*calls[place:place + 40]) for place in range(0, len(calls), 40)]
        self.assertEqual(max(itertools.chain(*counts)), [7200])


class OrderOfWays(unittest.TestCase):
    def test_one_syllable(self):
        self.assertEqual(last_of(best([c(), c(), v(), c()])), [1, 3, 2, 1, 11])

    def test_two_syllables(self):
        sounds = [v(), c(), v()]
        wanted = [sizes + marks for sizes in ([0, 0, 1, 0], [0, 1, 0, 0]) for marks in MARKS_OF_TWO]
        self.assertEqual(last_of(best(sounds)), listed(wanted))

    def test_three_syllables(self):
        marks = [
            [0, 0, 11], [0, 1, 11], [0, 4, 15], [0, 11, 0], [0, 11, 1], [0, 12, 3],
            [1, 0, 11], [1, 1, 11], [1, 4, 15], [1, 11, 0], [1, 11, 1], [1, 12, 3],
            [2, 3, 11], [4, 5, 11], [4, 15, 0], [4, 15, 1],
            [11, 0, 0], [11, 0, 1], [11, 1, 0], [11, 1, 1], [11, 2, 3], [11, 4, 5],
            [12, 3, 0], [12, 3, 1],
        ]
        self.assertEqual(rows(last_of(best([v(), v(), v()]))), [[0] * 6 + row for row in marks])

    def test_no_more_than_three_consonants_on_a_side(self):
        sizes = [row[:4] for row in rows(last_of(best([v()] + [c()] * 4 + [v()])))]
        self.assertEqual(sizes[::6], [[0, 1, 3, 0], [0, 2, 2, 0], [0, 3, 1, 0]])

    def test_the_earlier_gap_counts_first(self):
        sizes = [row[:6] for row in rows(last_of(best([v(), c(), v(), c(), v()])))]
        self.assertEqual(
            sizes[::24],
            [[0, 0, 1, 0, 1, 0], [0, 0, 1, 1, 0, 0], [0, 1, 0, 0, 1, 0], [0, 1, 0, 1, 0, 0]])

    def test_all_rows_stand_in_order_and_once(self):
        for sounds in ([v()] * 5, [v(), c(), v(), c(), c(), v(), v()]):
            found = rows(last_of(best(sounds)))
            self.assertEqual(found, sorted(found))
            self.assertEqual(len(set(map(tuple, found))), len(found))


if __name__ == "__main__":
    unittest.main()
