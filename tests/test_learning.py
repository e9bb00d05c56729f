"""Points 6 and 7: learn and fitting."""

import itertools
import unittest

from asking import ALL_RULES, ask, begins, best, c, codas, fitting, last_of, learn, listed, long_v, rows, rules, v

TWO = [v(), v()]
THREE = [v(), v(), v()]
FIRST_OF_TWO = (TWO, [0] * 4 + [12, 3])
FIRST_OF_THREE = (THREE, [0] * 6 + [12, 3, 0])
NO_WORDS = ([], [c()], [v()] * 6, [v()] + [c()] * 10, [v(), (3, 1)], [v(10)])


class Learn(unittest.TestCase):
    def test_no_rules_in_use(self):
        self.assertEqual(ask(learn(), learn(FIRST_OF_TWO)), [[0], [0]])

    def test_nothing_told(self):
        self.assertEqual(last_of(rules(3, 1, 2), learn()), [1, 3, 3, 1, 2])

    def test_two_ranks(self):
        # Each other way spares rule 5 and breaks 7, 6 or 4 more often.
        self.assertEqual(last_of(rules(5, 7, 6, 4), learn(FIRST_OF_TWO)), listed([[7, 6, 4], [5]]))

    def test_a_rank_keeps_the_order_of_use(self):
        self.assertEqual(last_of(rules(4, 6, 5, 7), learn(FIRST_OF_TWO)), listed([[4, 6, 7], [5]]))

    def test_three_ranks(self):
        # 8 is for the told way against all with a second foot, 4 against [4, 15, 0];
        # then only [11, 0, 0] is left, against which 7 is for it.
        self.assertEqual(last_of(rules(5, 7, 8, 4), learn(FIRST_OF_THREE)), listed([[8, 4], [7], [5]]))

    def test_several_words_are_learned_from_together(self):
        # One foot on the first two of two says nothing of 7 and 8; that of three parts them.
        self.assertEqual(last_of(rules(7, 8), learn(FIRST_OF_TWO)), listed([[7, 8]]))
        self.assertEqual(last_of(rules(7, 8), learn(FIRST_OF_TWO, FIRST_OF_THREE)), listed([[8], [7]]))

    def test_equal_ways_of_one_word(self):
        # By 7 and 8 the heads don't matter.
        told = [FIRST_OF_THREE, (THREE, [0] * 6 + [4, 15, 0])]
        self.assertEqual(last_of(rules(7, 8), learn(*told)), listed([[8], [7]]))

    def test_no_ranks_if_a_way_is_bounded(self):
        self.assertEqual(last_of(rules(4, 5), learn(FIRST_OF_TWO)), [-6])

    def test_no_ranks_if_words_contradict_each_other(self):
        first = (TWO, [0] * 4 + [12, 3])
        second = (TWO, [0] * 4 + [4, 15])
        in_use = rules(6, 7, 4, 5)
        self.assertEqual(ask(in_use, learn(first), learn(second))[1:], [[2, 3, 6, 7, 4, 1, 5], [2, 3, 6, 7, 5, 1, 4]])
        self.assertEqual(last_of(in_use, learn(first, second)), [-6])

    def test_no_ranks_behind_a_first_rank(self):
        # Nobody breaks rule 2, so it makes a rank, but then nothing goes on.
        self.assertEqual(last_of(rules(2, 4, 5), learn(FIRST_OF_TWO)), [-6])

    def test_codas_matter(self):
        # If the closed syllable is light, it's bounded by the way that leaves it open; if it's heavy,
        # 6 is for it against that, and 5, 12, 4 against all in which the last syllable is in a foot.
        told = ([v(), c(), c(), v()], [0, 1, 1, 0, 11, 0])
        in_use = rules(0, 6, 7, 1, 5, 12, 4)
        self.assertEqual(last_of(in_use, learn(told)), [-6])
        self.assertEqual(last_of(in_use, codas(1), learn(told)), listed([[0, 6, 5, 12, 4], [7, 1]]))
        # If the last syllable is heavy, [1, 11] bounds the told way.
        told = ([long_v(), c(), v(), c()], [0, 0, 1, 1, 11, 0])
        in_use = rules(13, 6, 1, 5, 7)
        self.assertEqual(last_of(in_use, learn(told)), listed([[13, 6, 1, 5], [7]]))
        self.assertEqual(last_of(in_use, codas(1), learn(told)), [-6])

    def test_ten_may_be_told_and_no_more(self):
        self.assertEqual(last_of(rules(7, 8), learn(*[FIRST_OF_TWO] * 10)), listed([[7, 8]]))
        self.assertEqual(last_of(rules(7, 8), learn(*[FIRST_OF_TWO] * 11)), [-1])
        self.assertEqual(last_of(rules(7, 8), learn(*[FIRST_OF_TWO] * 60)), [-1])

    def test_ranks_that_are_found_make_all_told_ways_best(self):
        words = [[v(), c(), v()], [c(), v(), c(), c(), long_v()], THREE, [long_v(), v(), c(), v(), c()]]
        for order in ((0, 1, 13, 4, 7, 12, 6, 9), ALL_RULES, tuple(reversed(ALL_RULES)), (6, 7, 10, 3, 0, 5, 12)):
            chosen = ask(codas(1), rules(*order), *[best(sounds) for sounds in words])[2:]
            told = [(sounds, rows(answer)[-1]) for sounds, answer in zip(words, chosen)]
            shuffled = sorted(order, key=lambda rule: (rule * 7 % 16))
            ranks = rows(last_of(codas(1), rules(*shuffled), learn(*told)))
            self.assertEqual(sorted(itertools.chain(*ranks)), sorted(order))
            for flat in (ranks, [list(reversed(rank)) for rank in ranks]):
                found = ask(codas(1), rules(*itertools.chain(*flat)), *[best(sounds) for sounds in words])[2:]
                for (sounds, row), answer in zip(told, found):
                    self.assertIn(row, rows(answer))


class Fitting(unittest.TestCase):
    def test_no_rules_in_use(self):
        self.assertEqual(ask(fitting(), fitting(FIRST_OF_TWO)), [[1, 0], [1, 0]])

    def test_nothing_told(self):
        wanted = [[9, 2, 4], [9, 4, 2], [2, 9, 4], [2, 4, 9], [4, 9, 2], [4, 2, 9]]
        self.assertEqual(last_of(rules(9, 2, 4), fitting()), listed(wanted))

    def test_orders_come_by_use(self):
        # 8 before 7 before 5, and 4 before 5.
        wanted = [[8, 7, 4, 5], [8, 4, 7, 5], [4, 8, 7, 5]]
        self.assertEqual(last_of(rules(5, 7, 8, 4), fitting(FIRST_OF_THREE)), listed(wanted))
        wanted = [[4, 8, 7, 5], [8, 4, 7, 5], [8, 7, 4, 5]]
        self.assertEqual(last_of(rules(4, 8, 5, 7), fitting(FIRST_OF_THREE)), listed(wanted))

    def test_no_order_fits(self):
        self.assertEqual(last_of(rules(4, 5), fitting(FIRST_OF_TWO)), [0])

    def test_five_rules_and_more(self):
        self.assertEqual(len(rows(last_of(rules(0, 1, 2, 3, 4), fitting()))), 120)
        self.assertEqual(last_of(rules(0, 1, 2, 3, 4, 5), fitting()), [-4])
        self.assertEqual(last_of(rules(*ALL_RULES), fitting(FIRST_OF_TWO)), [-4])

    def test_all_orders_of_five_come_in_order(self):
        in_use = (11, 3, 0, 15, 6)
        self.assertEqual(rows(last_of(rules(*in_use), fitting())), [list(row) for row in itertools.permutations(in_use)])

    def test_ten_may_be_told_and_no_more(self):
        self.assertEqual(last_of(rules(7, 8), fitting(*[FIRST_OF_THREE] * 10)), listed([[8, 7]]))
        self.assertEqual(last_of(rules(7, 8), fitting(*[FIRST_OF_THREE] * 11)), [-1])

    def test_are_just_the_orders_by_which_all_told_are_best(self):
        words = [[v(), c(4), v()], [c(), v(), c(2), c(3), long_v()], THREE]
        in_use = (7, 0, 13, 4, 8)
        for order in ((8, 0, 4, 13, 7), (13, 7, 4, 0, 8), (4, 7, 8, 13, 0)):
            chosen = ask(rules(*order), *[best(sounds) for sounds in words])[1:]
            told = [(sounds, rows(answer)[0]) for sounds, answer in zip(words, chosen)]
            wanted = []
            for other in itertools.permutations(in_use):
                found = ask(rules(*other), *[best(sounds) for sounds in words])[1:]
                if all(row in rows(answer) for (sounds, row), answer in zip(told, found)):
                    wanted.append(list(other))
            self.assertIn(list(order), wanted)
            self.assertEqual(last_of(rules(*in_use), fitting(*told)), listed(wanted))

    def test_none_fits_just_if_there_are_no_ranks(self):
        for row in rows(last_of(best(THREE))):
            learned, fitted = ask(rules(4, 7, 8, 12, 14), learn((THREE, row)), fitting((THREE, row)))[1:]
            self.assertEqual(learned == [-6], fitted == [0], row)


class Refusals(unittest.TestCase):
    def both(self, in_use, told, refusals):
        set_up = rules(*in_use) if in_use else begins()
        self.assertEqual(ask(set_up, learn(*told), fitting(*told))[1:], [[number] for number in refusals])

    def test_no_word(self):
        for sounds in NO_WORDS:
            self.both((7,), [(sounds, [0, 0, 11])], (-1, -1))
            self.both((7,), [FIRST_OF_TWO, (sounds, [0, 0, 11])], (-1, -1))

    def test_no_way(self):
        for row in ([], [0] * 4, [0] * 4 + [2, 3], [0] * 4 + [12, 3, 0], [0, 1, 0, 0, 12, 3]):
            self.both((7,), [(TWO, row)], (-3, -3))
            self.both((7,), [FIRST_OF_TWO, (TWO, row)], (-3, -3))
        self.both((7,), [([c()] * 4 + [v()], [4, 0, 11])], (-3, -3))

    def test_no_word_anywhere_goes_before_no_way(self):
        self.both((7,), [(TWO, []), ([c()], [])], (-1, -1))
        self.both((), [(TWO, []), ([c()], [])], (-1, -1))

    def test_too_many_told_goes_before_no_way(self):
        self.both((7,), [(TWO, [])] * 11, (-1, -1))

    def test_refused_input_goes_before_too_many_rules_and_no_ranks(self):
        self.both(ALL_RULES, [([c()], [])], (-1, -1))
        self.both(ALL_RULES, [(TWO, [])], (-3, -3))
        self.both((4, 5), [FIRST_OF_TWO, (TWO, [])], (-3, -3))
        self.both((4, 5), [FIRST_OF_TWO, ([c()], [])], (-1, -1))


if __name__ == "__main__":
    unittest.main()
