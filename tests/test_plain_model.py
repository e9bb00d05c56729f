"""Many words and rules, held against a slow model that takes the document at its words."""

import itertools
import random
import unittest

from asking import ask, best, bounding, codas, contenders, fitting, learn, listed, many, profile, rules

MARKS = (0, 1, 2, 3, 4, 5, 11, 12, 15)


def size_rows(kinds):
    """All rows of before and behind that spell these kinds, found by trying each."""
    if not kinds:
        return [[]]
    found = []
    for before, behind in itertools.product(range(4), repeat=2):
        length = before + 1 + behind
        shape = [bool(kind) for kind in kinds[:length]]
        if shape == [False] * before + [True] + [False] * behind:
            found += [[before, behind] + rest for rest in size_rows(kinds[length:])]
    return found


def feet_of(marks):
    """Each foot as its syllables' places, its head's place, and whether it's the main one; None if ill-formed."""
    feet = []
    place = 0
    while place < len(marks):
        pair = tuple(marks[place:place + 2])
        if marks[place] in (1, 11):
            feet.append(((place,), place, marks[place] == 11))
        elif pair in ((2, 3), (12, 3)):
            feet.append(((place, place + 1), place, pair[0] == 12))
        elif pair in ((4, 5), (4, 15)):
            feet.append(((place, place + 1), place + 1, pair[1] == 15))
        elif marks[place] != 0:
            return None
        place += len(feet[-1][0]) if marks[place] != 0 else 1
    return feet if [main for places, head, main in feet].count(True) == 1 else None


def mark_rows(syllables):
    return [list(marks) for marks in itertools.product(MARKS, repeat=syllables) if feet_of(marks) is not None]


MARK_ROWS = {syllables: mark_rows(syllables) for syllables in range(1, 5)}


def all_ways(sounds):
    kinds = [kind for kind, loudness in sounds]
    syllables = len([kind for kind in kinds if kind])
    return sorted(sizes + marks for sizes in size_rows(kinds) for marks in MARK_ROWS[syllables])


def syllables_of(sounds, row):
    """Each syllable as its loudnesses before, of its vowel, and behind, and whether its vowel is long."""
    found = []
    rest = list(sounds)
    for place in range(0, 2 * len(row) // 3, 2):
        before, behind = row[place:place + 2]
        part, rest = rest[:before + 1 + behind], rest[before + 1 + behind:]
        loud = [loudness for kind, loudness in part]
        found.append((loud[:before], loud[before], loud[before + 1:], part[before][0] == 2))
    return found


def counts(sounds, row, closed_count):
    syllables = syllables_of(sounds, row)
    number = len(syllables)
    feet = feet_of(row[2 * number:])
    heads = [head for places, head, main in feet]
    in_feet = [place for places, head, main in feet for place in places]
    heavy = [place for place, (before, vowel, behind, is_long) in enumerate(syllables)
             if is_long or (closed_count and behind)]
    main = [places for places, head, is_main in feet if is_main][0]
    uneven = 0
    for before, vowel, behind, is_long in syllables:
        up, down = before + [vowel], [vowel] + behind
        uneven += sum(not up[k + 1] > up[k] for k in range(len(up) - 1))
        uneven += sum(not down[k] > down[k + 1] for k in range(len(down) - 1))
    return [
        sum(not before for before, vowel, behind, is_long in syllables),
        sum(bool(behind) for before, vowel, behind, is_long in syllables),
        sum((len(before) > 1) + (len(behind) > 1) for before, vowel, behind, is_long in syllables),
        uneven,
        sum(len(places) == 2 and head == places[1] for places, head, is_main in feet),
        sum(len(places) == 2 and head == places[0] for places, head, is_main in feet),
        sum(len(places) == 1 and places[0] not in heavy for places, head, is_main in feet),
        number - len(in_feet),
        sum(places[0] for places, head, is_main in feet),
        sum(number - 1 - places[-1] for places, head, is_main in feet),
        main[0],
        number - 1 - main[-1],
        int(number - 1 in heads),
        sum(place not in heads for place in heavy),
        sum(place in heads and place + 1 in heads for place in range(number - 1)),
        sum(place not in heads and place + 1 not in heads for place in range(number - 1)),
    ]


def bounds(mine, other):
    never_more = all(a <= b for a, b in zip(mine, other))
    return never_more and any(a < b for a, b in zip(mine, other))


class Model:
    def __init__(self, in_use, closed_count):
        self.in_use = in_use
        self.closed_count = closed_count

    def profile(self, sounds, row):
        found = counts(sounds, row, self.closed_count)
        return [found[rule] for rule in self.in_use]

    def profiles(self, sounds):
        return [(row, self.profile(sounds, row)) for row in all_ways(sounds)]

    def best(self, sounds):
        pairs = self.profiles(sounds)
        return [row for row, mine in pairs if not any(other < mine for way, other in pairs)]

    def bounding(self, sounds, row):
        mine = self.profile(sounds, row)
        return [way for way, other in self.profiles(sounds) if bounds(other, mine)]

    def contenders(self, sounds):
        pairs = self.profiles(sounds)
        return [row for row, mine in pairs if not any(bounds(other, mine) for way, other in pairs)]

    def learn(self, told):
        pairs = []
        for sounds, row in told:
            mine = self.profile(sounds, row)
            for way, other in self.profiles(sounds):
                helps = {rule for rule, a, b in zip(self.in_use, mine, other) if a < b}
                harms = {rule for rule, a, b in zip(self.in_use, mine, other) if a > b}
                if harms:
                    pairs.append((helps, harms))
        left = list(self.in_use)
        ranks = []
        while left:
            rank = [rule for rule in left if not any(rule in harms for helps, harms in pairs)]
            if not rank:
                return None
            ranks.append(rank)
            left = [rule for rule in left if rule not in rank]
            pairs = [(helps, harms) for helps, harms in pairs if not helps.intersection(rank)]
        return None if pairs else ranks

    def fitting(self, told):
        tables = []
        for sounds, row in told:
            tables.append((self.profile(sounds, row), {tuple(other) for way, other in self.profiles(sounds)}))
        found = []
        for order in itertools.permutations(range(len(self.in_use))):
            fits = True
            for mine, others in tables:
                ordered = [mine[k] for k in order]
                fits = fits and not any([other[k] for k in order] < ordered for other in others)
            if fits:
                found.append([self.in_use[k] for k in order])
        return found


def some_word(chance):
    while True:
        sounds = []
        for _ in range(chance.randint(1, 8)):
            sounds.append((chance.choice((0, 0, 1, 1, 2)), chance.randint(0, 9)))
        if 1 <= len([kind for kind, loudness in sounds if kind]) <= 3:
            return sounds


def some_told(chance, model, words):
    """Some of the told ways are best, others are any: so both ranks and none are found."""
    told = []
    for sounds in words:
        ways = model.best(sounds) if chance.random() < 0.8 else all_ways(sounds)
        if ways:
            told.append((sounds, chance.choice(ways)))
    return told


class AgainstModel(unittest.TestCase):
    def line(self, chance, how_many):
        in_use = chance.sample(range(16), how_many)
        model = Model(in_use, chance.randint(0, 1))
        set_up = [codas(model.closed_count), rules(*in_use)]
        return model, set_up

    def test_ways_and_profiles(self):
        chance = random.Random(11)
        for _ in range(60):
            model, set_up = self.line(chance, 16)
            sounds = some_word(chance)
            ways = all_ways(sounds)
            asked = chance.sample(ways, min(30, len(ways)))
            found = ask(*set_up, many(sounds), *[profile(sounds, row) for row in asked])[2:]
            self.assertEqual(found[0], [len(ways)])
            self.assertEqual(found[1:], [[0, 16, *model.profile(sounds, row)] for row in asked], sounds)
            self.assertEqual(ask(best(sounds))[0], listed(ways))

    def test_four_syllables(self):
        chance = random.Random(12)
        for kinds in ((0, 1, 0, 2, 0, 0, 1, 0, 1, 0), (1, 1, 2, 1), (2, 0, 0, 0, 1, 0, 1, 2)):
            sounds = [(kind, chance.randint(0, 9)) for kind in kinds]
            model, set_up = self.line(chance, 16)
            ways = all_ways(sounds)
            asked = chance.sample(ways, 36)
            found = ask(*set_up, many(sounds), *[profile(sounds, row) for row in asked])[2:]
            self.assertEqual(found[0], [len(ways)])
            self.assertEqual(found[1:], [[0, 16, *model.profile(sounds, row)] for row in asked], sounds)

    def test_choosing(self):
        chance = random.Random(13)
        for _ in range(120):
            model, set_up = self.line(chance, chance.randint(1, 16))
            sounds = some_word(chance)
            ways = all_ways(sounds)
            if not ways:
                continue
            row = chance.choice(ways)
            found = ask(*set_up, best(sounds), bounding(sounds, row), contenders(sounds))[2:]
            self.assertEqual(found[0], listed(model.best(sounds)), (set_up, sounds))
            self.assertEqual(found[1], listed(model.bounding(sounds, row)), (set_up, sounds, row))
            self.assertEqual(found[2], listed(model.contenders(sounds)), (set_up, sounds))

    def test_learning(self):
        chance = random.Random(14)
        none_found = 0
        for _ in range(120):
            model, set_up = self.line(chance, chance.randint(1, 16))
            told = some_told(chance, model, [some_word(chance) for _ in range(chance.randint(0, 4))])
            chance.shuffle(model.in_use)
            set_up[1] = rules(*model.in_use)
            ranks = model.learn(told)
            none_found += ranks is None
            self.assertEqual(ask(*set_up, learn(*told))[2], [-6] if ranks is None else listed(ranks), (set_up, told))
        self.assertTrue(10 < none_found < 110)

    def test_fitting(self):
        chance = random.Random(15)
        none_fits = 0
        for _ in range(80):
            model, set_up = self.line(chance, chance.randint(1, 5))
            told = some_told(chance, model, [some_word(chance) for _ in range(chance.randint(0, 3))])
            chance.shuffle(model.in_use)
            set_up[1] = rules(*model.in_use)
            orders = model.fitting(told)
            none_fits += not orders
            self.assertEqual(ask(*set_up, fitting(*told))[2], listed(orders), (set_up, told))
        self.assertTrue(5 < none_fits < 75)


if __name__ == "__main__":
    unittest.main()
