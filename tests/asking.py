"""How the tests write calls and read answers."""

from beatranks.desk import answers

ALL_RULES = tuple(range(16))
MARKS_OF_TWO = [[0, 11], [1, 11], [4, 15], [11, 0], [11, 1], [12, 3]]


def c(loudness=1):
    return (0, loudness)


def v(loudness=9):
    return (1, loudness)


def long_v(loudness=9):
    return (2, loudness)


def word_numbers(sounds):
    numbers = [len(sounds)]
    for kind, loudness in sounds:
        numbers += [kind, loudness]
    return numbers


def list_numbers(members):
    return [len(members), *members]


def told_numbers(told):
    numbers = [len(told)]
    for sounds, row in told:
        numbers += word_numbers(sounds) + list_numbers(row)
    return numbers


def begins():
    return [0]


def codas(number):
    return [1, number]


def rules(*members):
    return [2, *list_numbers(members)]


def many(sounds):
    return [3, *word_numbers(sounds)]


def best(sounds):
    return [4, *word_numbers(sounds)]


def profile(sounds, row):
    return [5, *word_numbers(sounds), *list_numbers(row)]


def bounding(sounds, row):
    return [6, *word_numbers(sounds), *list_numbers(row)]


def contenders(sounds):
    return [7, *word_numbers(sounds)]


def learn(*told):
    return [8, *told_numbers(told)]


def fitting(*told):
    return [9, *told_numbers(told)]


def line(calls):
    numbers = []
    for call in calls:
        numbers += [0, len(call), *call]
    return numbers


def split_answers(numbers):
    found = []
    place = 0
    while place < len(numbers):
        length = numbers[place]
        found.append(numbers[place + 1:place + 1 + length])
        place += 1 + length
    return found


def ask(*calls):
    found = split_answers(answers(line(calls)))
    assert len(found) == len(calls), "not one answer a call"
    return found


def last_of(*calls):
    return ask(*calls)[-1]


def rows(answer):
    """The lists of an answer that tells how many they are, each with its length ahead."""
    found = []
    place = 1
    while place < len(answer):
        length = answer[place]
        found.append(answer[place + 1:place + 1 + length])
        assert len(found[-1]) == length, "a list is shorter than told"
        place += 1 + length
    assert answer[0] == len(found), "not as many lists as told"
    return found


def listed(lists):
    answer = [len(lists)]
    for members in lists:
        answer += list_numbers(members)
    return answer
