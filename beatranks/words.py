"""Words: lists of sounds, each sound a pair of its kind and its loudness."""

CONSONANT = 0
LONG_VOWEL = 2
LOUDEST = 9
MOST_SOUNDS = 10
MOST_VOWELS = 5


def vowel_places(sounds):
    return [place for place, sound in enumerate(sounds) if sound[0] != CONSONANT]


def is_sound(kind, loudness):
    return kind <= LONG_VOWEL and loudness <= LOUDEST


def is_word(sounds):
    if len(sounds) > MOST_SOUNDS:
        return False
    if not all([is_sound(kind, loudness) for kind, loudness in sounds]):
        return False
    vowels = len(vowel_places(sounds))
    return vowels >= 1 and vowels <= MOST_VOWELS
