"""Grammars, their trees, and how often each letter stands in what the trees say.

Counts are kept in tables with one place for each way to take some of the
counts asked for: the place of taken[0], taken[1], .. is the sum of
taken[x] * weights[x]. So the place of two counts together is the sum of
their places, and the last place is that of all the counts.

A base and steps, each taken as often as one likes, come to counts as well:
there the counts themselves are kept, each in a tuple, a number a letter.
"""

MOST_VARIABLES = 8
MOST_LETTERS = 4
MOST_RULES = 64
MOST_STEPS = 8
MOST_TOGETHER = 24
MOST_DIVISOR = 2147483647
LETTER_MARK = 255
# Stands where there is no tree: of 24 letters no index is greater than 5, which is kept as 16.
NO_INDEX = 64


def sizes_fit(v, l, r):
    """Whether v, l and r are in their ranges."""
    return 1 <= v <= MOST_VARIABLES and 1 <= l <= MOST_LETTERS and 1 <= r <= MOST_RULES


def rule_triples(rules):
    """The rules one by one: each a variable, then two variables or a letter and the mark."""
    return [(rules[k], rules[k + 1], rules[k + 2]) for k in range(0, len(rules), 3)]


def rule_fits(rule, v, l):
    """Whether a rule speaks only of variables below v and letters below l."""
    if rule[0] >= v:
        return False
    if rule[2] == LETTER_MARK:
        return rule[1] < l
    return rule[1] < v and rule[2] < v


def refusal(v, l, r, rules, counts):
    """The number that refuses a grammar and counts, or 0 if they are as they should be."""
    if not sizes_fit(v, l, r):
        return -2
    if sum(counts) > MOST_TOGETHER:
        return -3
    for rule in rule_triples(rules):
        if not rule_fits(rule, v, l):
            return -3
    return 0


def letter_weights(counts):
    """How far apart two places are that differ by one of a letter, for each letter."""
    weights = []
    weight = 1
    for count in reversed(counts):
        weights.append(weight)
        weight = weight * (count + 1)
    return list(reversed(weights))


def table_size(counts):
    """How many places a table for these counts has."""
    size = 1
    for count in counts:
        size = size * (count + 1)
    return size


def places_within(place, counts, weights):
    """The places of all counts that are for no letter above those of the place, in rising order."""
    places = [0]
    for count, weight in zip(counts, weights):
        taken = place // weight % (count + 1)
        longer = []
        for start in places:
            longer.extend([start + weight * k for k in range(taken + 1)])
        places = longer
    return places


def in_either_order(triples):
    """The rules with the lesser variable of two in front: counts don't tell which of two trees stands first.

    The mark is greater than every letter, so rules of a letter stay as they are.
    """
    return [(triple[0], min(triple[1], triple[2]), max(triple[1], triple[2])) for triple in triples]


def pairs_with_heads(triples):
    """For each pair of variables that rules come to, the variables of these rules, one for each rule."""
    heads = {}
    for triple in triples:
        if triple[2] != LETTER_MARK:
            heads.setdefault((triple[1], triple[2]), []).append(triple[0])
    return heads


def letter_tables(v, triples, counts, letter_values, gather):
    """For each variable a table of what its trees come to that are a letter alone."""
    weights = letter_weights(counts)
    tables = [[gather([])] * table_size(counts) for variable in range(v)]
    for triple in triples:
        # A letter that is not asked for has no place of its own: its weight is another letter's place.
        if triple[2] == LETTER_MARK and counts[triple[1]] > 0:
            table = tables[triple[0]]
            place = weights[triple[1]]
            table[place] = gather([table[place], letter_values[triple[1]]])
    return tables


def values_at(table, places):
    """What stands in the table at each of the places."""
    return [table[place] for place in places]


def tree_tables(v, triples, counts, letter_values, combine, gather):
    """For each variable a table of what its trees come to, of whatever sort that is.

    letter_values holds what the tree of each letter comes to. combine takes two
    equally long rows of values, of first trees and of the second trees beside
    them, and answers what comes of them all; gather makes one value of several.
    """
    weights = letter_weights(counts)
    tables = letter_tables(v, triples, counts, letter_values, gather)
    heads = pairs_with_heads(triples)
    # No tree says an empty word, so both trees of a pair have places below the one that is filled.
    for place in range(1, table_size(counts)):
        within = places_within(place, counts, weights)
        # What is left of the place beside within[k] is within[-1 - k]: the same places from behind.
        rising = [values_at(table, within) for table in tables]
        falling = [list(reversed(row)) for row in rising]
        for pair, variables in heads.items():
            value = combine(rising[pair[0]], falling[pair[1]])
            for variable in variables:
                tables[variable][place] = gather([tables[variable][place], value])
    return tables


def any_of(truths):
    """Whether one of them is True."""
    return any(truths)


def both_somewhere(xs, ys):
    """Whether somewhere one of xs and the one of ys beside it are both True."""
    for x, y in zip(xs, ys):
        if x and y:
            return True
    return False


def says(variable, v, triples, counts):
    """Whether some tree of the variable says a word that has the counts."""
    tables = tree_tables(v, in_either_order(triples), counts, [True] * len(counts), both_somewhere, any_of)
    return tables[variable][-1]


def comes_back(a, v, rules, counts):
    """Whether from a, by one rule or more, comes a row of one a and letters that have the counts.

    The one a counts as one more letter, to which a alone comes: so the row is a word like others.
    """
    # A row of the one a alone comes by no rule: each rule to two variables puts some letter beside it.
    if sum(counts) == 0:
        return False
    return says(a, v, rule_triples(rules) + [(a, len(counts), LETTER_MARK)], counts + [1])


def total(numbers):
    """All the numbers together."""
    return sum(numbers)


def sum_of_products(xs, ys):
    """Each of xs times the one of ys beside it, all together."""
    return sum([x * y for x, y in zip(xs, ys)])


def count_trees(v, rules, counts):
    """How many trees of variable 0 say words that have the counts."""
    triples = in_either_order(rule_triples(rules))
    tables = tree_tables(v, triples, counts, [1] * len(counts), sum_of_products, total)
    return tables[0][-1]


def first_of(words):
    """The first of some equally long words; the empty word stands for none."""
    return min([word for word in words if word], default="")


def first_joined(xs, ys):
    """The first of the words that are one of xs and then the one of ys beside it, where neither is missing."""
    return min([x + y for x, y in zip(xs, ys) if x and y], default="")


def first_word(v, rules, counts):
    """The first word that has the counts and that a tree of variable 0 says, a digit for each letter, or none.

    Words with the same counts are equally long, so of two words in a row the
    first comes of the first for the one part and the first for the other.
    """
    letters = [str(letter) for letter in range(len(counts))]
    tables = tree_tables(v, rule_triples(rules), counts, letters, first_joined, first_of)
    return tables[0][-1]


def least_of(numbers):
    """The least of the numbers; of none, that there is no index."""
    return min(numbers, default=NO_INDEX)


def highest_bit(number):
    """The number with all its bits but the highest one taken away."""
    return 1 << (number.bit_length() - 1)


def least_joined(xs, ys):
    """The least index of a tree of two, an x and the y beside it.

    Index k is kept as a number that has k bits, of which the first alone is
    set. So the sum of two has as many bits as the greater, or, if they are
    the same, one more; and a lesser index of a part never makes a greater one.
    """
    return highest_bit(min([x + y for x, y in zip(xs, ys)]))


def least_index(v, rules, counts):
    """The least index of the trees of variable 0 that say words that have the counts, kept as in least_joined."""
    triples = in_either_order(rule_triples(rules))
    tables = tree_tables(v, triples, counts, [1] * len(counts), least_joined, least_of)
    return tables[0][-1]


def step_rows(l, steps):
    """The steps one by one, each a tuple of l numbers."""
    return [tuple(steps[k:k + l]) for k in range(0, len(steps), l)]


def steps_refusal(l, c, base, steps, counts):
    """The number that refuses a base, steps and counts, or 0 if they are as they should be."""
    if l < 1 or l > MOST_LETTERS or c < 0 or c > MOST_STEPS:
        return -2
    if sum(base) > MOST_TOGETHER or sum(counts) > MOST_TOGETHER:
        return -3
    for step in step_rows(l, steps):
        if sum(step) == 0 or sum(step) > MOST_TOGETHER:
            return -3
    return 0


def joined(xs, ys):
    """Each of xs and the one of ys beside it together."""
    return tuple([x + y for x, y in zip(xs, ys)])


def left_over(xs, ys):
    """What is left of each of xs without the one of ys beside it."""
    return tuple([x - y for x, y in zip(xs, ys)])


def none_above(xs, ys):
    """Whether none of xs is above the one of ys beside it."""
    return all([x <= y for x, y in zip(xs, ys)])


def sums_with(step, sums, most):
    """The sums, and all that come of them by the step, taken as often as one likes, and are nowhere above most."""
    more = dict(sums)
    for start in sums:
        longer = joined(start, step)
        # No step is all 0, so at last some letter is above most.
        while none_above(longer, most):
            more[longer] = True
            longer = joined(longer, step)
    return more


def sums_from_behind(rows, most):
    """For each step the sums of it and those behind it, each as often as one likes; at the end those of no step."""
    found = [{tuple([0] * len(most)): True}]
    for step in reversed(rows):
        found.insert(0, sums_with(step, found[0], most))
    return found


def first_times(rows, found, whole):
    """How often each step is to be taken, so that they are together the whole, which is one of the sums found first.

    A step is taken as few times as leave a sum of the steps behind it.
    """
    times = []
    rest = whole
    for step, behind in zip(rows, found[1:]):
        number = 0
        while rest not in behind:
            rest = left_over(rest, step)
            number = number + 1
        times.append(number)
    return times


def lc_has(v, l, r, rules, counts):
    """1 if some tree of variable 0 says a word that has the counts, else 0; or a refusal."""
    refused = refusal(v, l, r, rules, counts)
    if refused != 0:
        return [refused]
    if says(0, v, rule_triples(rules), counts):
        return [1]
    return [0]


def lc_trees(v, l, r, p, rules, counts):
    """0, then how many trees as in lc_has there are, as the rest by p; or a refusal."""
    if p < 2 or p > MOST_DIVISOR:
        return [-2]
    refused = refusal(v, l, r, rules, counts)
    if refused != 0:
        return [refused]
    return [0, count_trees(v, rules, counts) % p]


def lc_first(v, l, r, rules, counts):
    """How many letters the first word has that a tree as in lc_has says, and these; or a refusal."""
    refused = refusal(v, l, r, rules, counts)
    if refused != 0:
        return [refused]
    word = first_word(v, rules, counts)
    if word == "":
        return [-5]
    return [len(word)] + [int(letter) for letter in word]


def lc_index(v, l, r, rules, counts):
    """The least index of a tree as in lc_has; or a refusal."""
    refused = refusal(v, l, r, rules, counts)
    if refused != 0:
        return [refused]
    least = least_index(v, rules, counts)
    if least == NO_INDEX:
        return [-5]
    return [least.bit_length()]


def lc_pump(v, l, r, a, rules, counts):
    """1 if from a, by one rule or more, comes a row of one a and letters that have the counts, else 0; or a refusal."""
    if a < 0 or a >= v:
        return [-2]
    refused = refusal(v, l, r, rules, counts)
    if refused != 0:
        return [refused]
    if comes_back(a, v, rules, counts):
        return [1]
    return [0]


def lc_steps(l, c, base, steps, counts):
    """0, then how often each step is taken so that base and steps are together the counts; or a refusal."""
    refused = steps_refusal(l, c, base, steps, counts)
    if refused != 0:
        return [refused]
    rows = step_rows(l, steps)
    whole = left_over(counts, base)
    found = sums_from_behind(rows, whole)
    if whole not in found[0]:
        return [-5]
    return [0] + first_times(rows, found, whole)
