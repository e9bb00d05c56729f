"""How often a way breaks each of the rules 0 to 15."""

from beatranks.words import LONG_VOWEL, vowel_places
from beatranks.ways import FOOT_ALONE, HEADS, HEAD_FIRST, HEAD_SECOND, IN_NO_FOOT, MAIN

RULES = 16
# The rules before this one look at syllables alone, it and those behind it at feet.
FIRST_FOOT_RULE = 4

# The marks of a foot's first syllable and of its last one: either may be alone.
FOOT_BEGINS = (1, 2, 4)
FOOT_ENDS = (1, 3, 5)


def steps_not_louder(row):
    return len([first for first, second in zip(row, row[1:]) if second <= first])


# Towards its vowel a syllable is to grow louder from either side, so the consonants behind are read backwards.
def loudness_breaks(sounds, sizes):
    total = 0
    loudness = [sound[1] for sound in sounds]
    for syllable, vowel in enumerate(vowel_places(sounds)):
        before = sizes[2 * syllable]
        behind = sizes[2 * syllable + 1]
        total += steps_not_louder(loudness[vowel - before:vowel + 1])
        total += steps_not_louder(list(reversed(loudness[vowel:vowel + behind + 1])))
    return total


# The counts of rules 0 to 3.
def syllable_counts(sounds, sizes):
    befores = sizes[0::2]
    behinds = sizes[1::2]
    return [
        befores.count(0),
        len(behinds) - behinds.count(0),
        len([size for size in sizes if size >= 2]),
        loudness_breaks(sounds, sizes),
    ]


def heavy_syllables(sounds, sizes, codas):
    heavy = []
    for syllable, vowel in enumerate(vowel_places(sounds)):
        closed = codas == 1 and sizes[2 * syllable + 1] > 0
        heavy.append(closed or sounds[vowel][0] == LONG_VOWEL)
    return heavy


def neighbours_alike(flags, wanted):
    return len([flag for flag, other in zip(flags, flags[1:]) if flag == wanted and other == wanted])


# How many syllables stand before the main foot, and how many behind it.
def main_foot_sides(marks):
    mark = max(marks)
    head = marks.index(mark)
    before = head
    behind = len(marks) - 1 - head
    if mark == HEAD_SECOND + MAIN:
        before -= 1
    if mark == HEAD_FIRST + MAIN:
        behind -= 1
    return [before, behind]


# The counts of rules 4 to 15.
def foot_counts(marks, heavy):
    plain = [mark % MAIN for mark in marks]
    heads = [mark in HEADS for mark in plain]
    last = len(plain) - 1
    main_sides = main_foot_sides(marks)
    return [
        plain.count(HEAD_SECOND),
        plain.count(HEAD_FIRST),
        len([mark for mark, weight in zip(plain, heavy) if mark == FOOT_ALONE and not weight]),
        plain.count(IN_NO_FOOT),
        sum([place for place, mark in enumerate(plain) if mark in FOOT_BEGINS]),
        sum([last - place for place, mark in enumerate(plain) if mark in FOOT_ENDS]),
        main_sides[0],
        main_sides[1],
        1 if heads[last] else 0,
        len([head for head, weight in zip(heads, heavy) if weight and not head]),
        neighbours_alike(heads, True),
        neighbours_alike(heads, False),
    ]
