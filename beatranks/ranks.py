"""Ranks and orders of rules that make told ways best."""


# Pairs of a told way and another: the bits of the rules for the told one, and of those against it.
def pairs_against(scale, told_score, scores):
    pairs = []
    for other in sorted(set(scores)):
        against = scale.more(told_score, other)
        if against != 0:
            pairs.append((scale.more(other, told_score), against))
    return sorted(set(pairs))


def all_against(pairs):
    bits = 0
    for pair in pairs:
        bits = bits | pair[1]
    return bits


def pairs_left(pairs, rule_bits):
    return [pair for pair in pairs if pair[0] & rule_bits == 0]


# None if there are no ranks. No pair is left behind the last rule: a pair that's left
# holds back the rules against it, and it has one.
def find_ranks(scale, pairs):
    ranks = []
    rules = scale.rules
    while len(rules) > 0:
        against = all_against(pairs)
        rank = [rule for rule in rules if scale.bit(rule) & against == 0]
        if len(rank) == 0:
            return None
        ranks.append(rank)
        rules = [rule for rule in rules if rule not in rank]
        pairs = pairs_left(pairs, sum([scale.bit(rule) for rule in rank]))
    return ranks


# The rules that may stand next, with the pairs that each of them leaves.
def next_steps(scale, order, pairs):
    against = all_against(pairs)
    steps = []
    for rule in scale.rules:
        if rule not in order and scale.bit(rule) & against == 0:
            steps.append((order + [rule], pairs_left(pairs, scale.bit(rule))))
    return steps


# An order makes all told ways best just if each of its rules is against no pair that those before it leave.
def find_orders(scale, pairs):
    begun = [([], pairs)]
    for length in range(len(scale.rules)):
        longer = []
        for order, left in begun:
            longer.extend(next_steps(scale, order, left))
        begun = longer
    return [order for order, left in begun]
