"""The desk: answers the calls about one set of rules, one behind another."""

from beatranks.breaks import RULES, foot_counts, heavy_syllables, syllable_counts
from beatranks.ranks import find_orders, find_ranks, pairs_against
from beatranks.reading import Reader
from beatranks.scores import Scale
from beatranks.ways import Ways
from beatranks.words import is_word

NOT_TAKEN = -1
NO_WAY = -3
TOO_MANY_RULES = -4
NO_RANKS = -6

MOST_TOLD = 10
MOST_RULES_FITTED = 5

BEGINS = 0
CODAS = 1
RULES_CALL = 2
MANY = 3
BEST = 4
PROFILE = 5
BOUNDING = 6
CONTENDERS = 7
LEARN = 8


def are_rules(rules):
    if len(rules) == 0 or len(set(rules)) < len(rules):
        return False
    return max(rules) < RULES


# A list of lists as it is answered: how many, then each with its length ahead.
def listed(rows):
    answer = [len(rows)]
    for row in rows:
        answer.append(len(row))
        answer.extend(row)
    return answer


# 0 if nothing is to be refused. All words are looked at ahead of any way.
def told_refusal(told):
    if len(told) > MOST_TOLD or not all([is_word(sounds) for sounds, row in told]):
        return NOT_TAKEN
    if not all([Ways(sounds).has_row(row) for sounds, row in told]):
        return NO_WAY
    return 0


class Desk:
    def __init__(self):
        self.codas = 0
        self.scale = Scale([])

    def begin(self):
        self.codas = 0
        self.scale = Scale([])
        return [0]

    def set_codas(self, codas):
        if codas > 1:
            return [NOT_TAKEN]
        self.codas = codas
        return [0]

    def use_rules(self, rules):
        if not are_rules(rules):
            return [NOT_TAKEN]
        self.scale = Scale(rules)
        return [len(rules)]

    def many(self, sounds):
        if not is_word(sounds):
            return [NOT_TAKEN]
        return [Ways(sounds).how_many()]

    def best(self, sounds):
        if not is_word(sounds):
            return [NOT_TAKEN]
        ways = Ways(sounds)
        scores = self.scale.scores(ways, self.codas)
        least = min(scores, default=0)
        return listed([ways.row(number) for number, score in enumerate(scores) if score == least])

    def contenders(self, sounds):
        if not is_word(sounds):
            return [NOT_TAKEN]
        ways = Ways(sounds)
        scores = self.scale.scores(ways, self.codas)
        free = dict([(score, True) for score in self.scale.unbounded(scores)])
        return listed([ways.row(number) for number, score in enumerate(scores) if score in free])

    def profile(self, sounds, row):
        refusal = told_refusal([(sounds, row)])
        if refusal != 0:
            return [refusal]
        ways = Ways(sounds)
        sizes = ways.sizes_part(row)
        heavy = heavy_syllables(sounds, sizes, self.codas)
        counts = syllable_counts(sounds, sizes) + foot_counts(ways.marks_part(row), heavy)
        return [0, len(self.scale.rules)] + [counts[rule] for rule in self.scale.rules]

    def bounding(self, sounds, row):
        refusal = told_refusal([(sounds, row)])
        if refusal != 0:
            return [refusal]
        ways = Ways(sounds)
        scores = self.scale.scores(ways, self.codas)
        told = scores[ways.number_of(row)]
        return listed([ways.row(number) for number, score in enumerate(scores) if self.scale.bounds(score, told)])

    def pairs(self, told):
        pairs = []
        for sounds, row in told:
            ways = Ways(sounds)
            scores = self.scale.scores(ways, self.codas)
            pairs.extend(pairs_against(self.scale, scores[ways.number_of(row)], scores))
        return sorted(set(pairs))

    def learn(self, told):
        refusal = told_refusal(told)
        if refusal != 0:
            return [refusal]
        ranks = find_ranks(self.scale, self.pairs(told))
        if ranks is None:
            return [NO_RANKS]
        return listed(ranks)

    def fitting(self, told):
        refusal = told_refusal(told)
        if refusal != 0:
            return [refusal]
        if len(self.scale.rules) > MOST_RULES_FITTED:
            return [TOO_MANY_RULES]
        return listed(find_orders(self.scale, self.pairs(told)))


def answer_about_word(desk, which, reader):
    sounds = reader.take_word()
    if which == MANY:
        return desk.many(sounds)
    if which == BEST:
        return desk.best(sounds)
    if which == CONTENDERS:
        return desk.contenders(sounds)
    row = reader.take_list()
    if which == PROFILE:
        return desk.profile(sounds, row)
    return desk.bounding(sounds, row)


def answer_call(desk, call):
    reader = Reader(call)
    which = reader.take()
    if which == BEGINS:
        return desk.begin()
    if which == CODAS:
        return desk.set_codas(reader.take())
    if which == RULES_CALL:
        return desk.use_rules(reader.take_list())
    if which in (MANY, BEST, PROFILE, BOUNDING, CONTENDERS):
        return answer_about_word(desk, which, reader)
    told = reader.take_all_told()
    if which == LEARN:
        return desk.learn(told)
    return desk.fitting(told)


def answers(calls):
    desk = Desk()
    reader = Reader(calls)
    given = []
    while reader.more_is_there():
        # Each call is led by the desk's one call number, 0, which tells nothing.
        reader.take()
        answer = answer_call(desk, reader.take_list())
        given.append(len(answer))
        given.extend(answer)
    return given
