"""Ways to part a word: each is a row of syllable sizes, then of foot marks."""

from beatranks.words import vowel_places

MOST_CONSONANTS = 3

# In a foot of two the head and the rest have other marks first than second.
IN_NO_FOOT = 0
FOOT_ALONE = 1
HEAD_FIRST = 2
REST_SECOND = 3
REST_FIRST = 4
HEAD_SECOND = 5
MAIN = 10

# Written as numbers, as a file's top holds plain values alone: a foot alone, a head first, a head second.
HEADS = (1, 2, 5)


# Counting up the consonants that stay behind keeps the rows in order.
def parted_between(rows, consonants):
    longer = []
    for row in rows:
        for behind in range(consonants + 1):
            before = consonants - behind
            if behind <= MOST_CONSONANTS and before <= MOST_CONSONANTS:
                longer.append(row + [behind, before])
    return longer


# The first and the last consonants have no choice: too many of them, and the word has no way.
def syllable_rows(sounds):
    vowels = vowel_places(sounds)
    first = vowels[0]
    last = len(sounds) - 1 - vowels[-1]
    if first > MOST_CONSONANTS or last > MOST_CONSONANTS:
        return []
    rows = [[first]]
    for vowel, following in zip(vowels, vowels[1:]):
        rows = parted_between(rows, following - vowel - 1)
    return [row + [last] for row in rows]


def footings(syllables):
    shorter = []
    rows = [[]]
    for length in range(syllables):
        longer = []
        longer.extend([row + [IN_NO_FOOT] for row in rows])
        longer.extend([row + [FOOT_ALONE] for row in rows])
        longer.extend([row + [HEAD_FIRST, REST_SECOND] for row in shorter])
        longer.extend([row + [REST_FIRST, HEAD_SECOND] for row in shorter])
        shorter = rows
        rows = longer
    return rows


# A footing without a foot has no main one, so it gives no row of marks.
def mark_rows(syllables):
    marked = []
    for row in footings(syllables):
        for place, mark in enumerate(row):
            if mark in HEADS:
                marked.append(row[:place] + [mark + MAIN] + row[place + 1:])
    return sorted(marked)


# All ways of one word, numbered in order: each syllable row with each row of marks.
class Ways:
    def __init__(self, sounds):
        self.sounds = sounds
        self.syllables = syllable_rows(sounds)
        self.marks = mark_rows(len(vowel_places(sounds)))

    def how_many(self):
        return len(self.syllables) * len(self.marks)

    def row(self, number):
        return self.syllables[number // len(self.marks)] + self.marks[number % len(self.marks)]

    def sizes_part(self, row):
        return row[:2 * len(vowel_places(self.sounds))]

    def marks_part(self, row):
        return row[2 * len(vowel_places(self.sounds)):]

    def has_row(self, row):
        return self.sizes_part(row) in self.syllables and self.marks_part(row) in self.marks

    def number_of(self, row):
        rows_before = self.syllables.index(self.sizes_part(row)) * len(self.marks)
        return rows_before + self.marks.index(self.marks_part(row))
