"""What the interface says of the list that is handed in and of the one that's given back."""

import contextlib
import io
import unittest

import beatranks.desk
from asking import ALL_RULES, best, begins, bounding, c, codas, contenders, fitting, learn, line, long_v, many
from asking import profile, rules, split_answers, v
from beatranks.desk import answers

SOUNDS = [c(3), v(7), c(4), c(5), long_v(8), c(2)]
ROW = [1, 1, 1, 1, 4, 15]
EVERY_CALL = [
    codas(1), rules(12, 7, 4, 0), many(SOUNDS), best(SOUNDS), profile(SOUNDS, ROW), bounding(SOUNDS, ROW),
    contenders(SOUNDS), learn((SOUNDS, ROW)), fitting((SOUNDS, ROW)), rules(), codas(2), profile(SOUNDS, []), begins(),
]


class LockedList(list):
    """A list that tells when somebody changes it, be it for a while only."""

    def locked(self, *arguments, **named):
        raise AssertionError("what is handed in was changed")

    append = extend = insert = pop = remove = clear = sort = reverse = locked
    __setitem__ = __delitem__ = __iadd__ = __imul__ = locked


class Interface(unittest.TestCase):
    def test_written_out(self):
        # rules 0 and 7; best of a vowel, a consonant, a vowel; codas 2; begins
        calls = [0, 4, 2, 2, 0, 7] + [0, 8, 4, 3, 1, 9, 0, 1, 1, 9] + [0, 2, 1, 2] + [0, 1, 0]
        feet = [[1, 11], [4, 15], [11, 1], [12, 3]]
        wanted = [1, 2] + [29, 4]
        for marks in feet:
            wanted += [6, 0, 0, 1, 0] + marks
        wanted += [1, -1] + [1, 0]
        self.assertEqual(answers(calls), wanted)

    def test_learn_fitting_and_profile_written_out(self):
        told = [2, 1, 9, 1, 9] + [6, 0, 0, 0, 0, 12, 3]
        calls = [0, 6, 2, 4, 5, 7, 6, 4] + [0, 14, 8, 1] + told
        calls += [0, 5, 2, 3, 7, 5, 6] + [0, 2, 9, 0] + [0, 13, 5] + told
        wanted = [1, 4] + [7, 2, 3, 7, 6, 4, 1, 5]
        wanted += [1, 3] + [25, 6, 3, 7, 5, 6, 3, 7, 6, 5, 3, 5, 7, 6, 3, 5, 6, 7, 3, 6, 7, 5, 3, 6, 5, 7]
        wanted += [5, 0, 3, 0, 1, 0]
        self.assertEqual(answers(calls), wanted)

    def test_one_answer_a_call(self):
        self.assertEqual(len(split_answers(answers(line(EVERY_CALL)))), len(EVERY_CALL))

    def test_forty_calls(self):
        self.assertEqual(answers(line([rules(*ALL_RULES)] * 40)), [1, 16] * 40)

    def test_long_words_and_many_told_words_are_read_to_their_end(self):
        long_word = [v(9)] * 60
        told = [(long_word, [1] * 60)] * 60
        calls = [learn(*told), many(long_word), profile(long_word, [7] * 60), rules(*range(60)), rules(1)]
        self.assertEqual(answers(line(calls)), [1, -1] * 4 + [1, 1])

    def test_gives_back_whole_numbers_in_a_new_list(self):
        calls = line(EVERY_CALL)
        found = answers(calls)
        self.assertIs(type(found), list)
        self.assertEqual({type(number) for number in found}, {int})
        self.assertIsNot(answers(calls), found)

    def test_what_is_handed_in_is_not_changed(self):
        calls = LockedList(line(EVERY_CALL))
        ahead = list(calls)
        answers(calls)
        self.assertEqual(list(calls), ahead)

    def test_asking_twice_gives_the_same(self):
        calls = line(EVERY_CALL)
        first = answers(calls)
        answers(line([codas(1), rules(*ALL_RULES), best(SOUNDS)]))
        self.assertEqual(answers(calls), first)
        self.assertEqual(answers(list(calls)), first)

    def test_nothing_is_kept_for_the_next_time(self):
        answers(line([codas(1), rules(6)]))
        self.assertEqual(answers(line([profile(SOUNDS, ROW)])), [2, 0, 0])
        self.assertEqual(answers(line([rules(13), profile(SOUNDS, ROW)])), [1, 1, 3, 0, 1, 0])

    def test_what_is_given_back_is_the_callers_own(self):
        calls = line([rules(7), best(SOUNDS), learn((SOUNDS, ROW))])
        first = answers(calls)
        copy = list(first)
        first.clear()
        self.assertEqual(answers(calls), copy)

    def test_prints_nothing(self):
        shown = io.StringIO()
        with contextlib.redirect_stdout(shown), contextlib.redirect_stderr(shown):
            beatranks.desk.answers(line(EVERY_CALL))
        self.assertEqual(shown.getvalue(), "")


if __name__ == "__main__":
    unittest.main()
