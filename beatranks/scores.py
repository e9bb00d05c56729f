"""Scores: a profile as one whole number, so that ways are held against each other quickly."""

from beatranks.breaks import FIRST_FOOT_RULE, RULES, foot_counts, heavy_syllables, syllable_counts

# No count is above 10, so each has room below the spare bit at the top of its digit.
DIGIT = 128
SPARE = 64


# The rules in use are the digits of a score, the first one highest: the less score is the better way.
class Scale:
    def __init__(self, rules):
        self.rules = rules
        self.places = [0] * RULES
        self.spare = 0
        # The same patterns of heavy syllables come again and again, and their feet cost most to count.
        self.kept = {}
        place = 1
        for rule in reversed(rules):
            self.places[rule] = place
            self.spare += place * SPARE
            place = place * DIGIT

    # A rule is told by its spare bit where several are told together.
    def bit(self, rule):
        return self.places[rule] * SPARE

    # The bits of the rules that one score counts more often than the other:
    # each spare bit lent to the other stays, unless its digit has to borrow from it.
    def more(self, score, other):
        return self.spare - (((other | self.spare) - score) & self.spare)

    def bounds(self, score, other):
        return score != other and self.more(score, other) == 0

    def score_from(self, first_rule, counts):
        return sum([count * self.places[first_rule + step] for step, count in enumerate(counts)])

    def foot_scores(self, mark_lists, heavy):
        key = tuple(heavy)
        if key not in self.kept:
            counts = [foot_counts(marks, heavy) for marks in mark_lists]
            self.kept[key] = [self.score_from(FIRST_FOOT_RULE, row) for row in counts]
        return self.kept[key]

    # The scores of all ways, in their order.
    def scores(self, ways, codas):
        found = []
        for sizes in ways.syllables:
            base = self.score_from(0, syllable_counts(ways.sounds, sizes))
            heavy = heavy_syllables(ways.sounds, sizes, codas)
            found.extend([base + score for score in self.foot_scores(ways.marks, heavy)])
        return found

    def bounded_by_any(self, bounding, score):
        spare = self.spare
        lent = score | spare
        for other in bounding:
            if (lent - other) & spare == spare:
                return True
        return False

    # What bounds a score is less than it, and if it's bounded itself, so is the score by what bounds that:
    # going upwards, only those that were kept have to be asked.
    def unbounded(self, scores):
        free = []
        for score in sorted(set(scores)):
            if not self.bounded_by_any(free, score):
                free.append(score)
        return free
