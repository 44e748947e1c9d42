"""Answers by going through all words, for grammars and counts that are small enough."""

import itertools
import random


def words_with(counts):
    """All words that have the counts, each once."""
    if sum(counts) == 0:
        return [()]
    words = []
    for letter, count in enumerate(counts):
        if count > 0:
            rest = list(counts)
            rest[letter] -= 1
            words.extend((letter,) + word for word in words_with(rest))
    return words


def trees_of_word(variable, word, triples, known):
    """How many trees of the variable say just this word, letter for letter."""
    key = (variable, word)
    if key not in known:
        number = 0
        for head, second, third in triples:
            if head != variable:
                continue
            if third == 255:
                number += word == (second,)
                continue
            for cut in range(1, len(word)):
                left = trees_of_word(second, word[:cut], triples, known)
                if left:
                    number += left * trees_of_word(third, word[cut:], triples, known)
        known[key] = number
    return known[key]


def trees_by_words(rules, counts):
    """How many trees of variable 0 say words that have the counts."""
    triples = list(zip(rules[0::3], rules[1::3], rules[2::3]))
    known = {}
    return sum(trees_of_word(0, word, triples, known) for word in words_with(counts))


def first_by_words(rules, counts):
    """The answer of lc_first, by asking of one word after another whether a tree of variable 0 says it."""
    triples = list(zip(rules[0::3], rules[1::3], rules[2::3]))
    known = {}
    for word in sorted(words_with(counts)):
        if trees_of_word(0, word, triples, known) > 0:
            return [len(word)] + list(word)
    return [-5]


def indexes_of_word(variable, word, triples, known):
    """The indexes of all trees of the variable that say just this word, each once."""
    key = (variable, word)
    if key not in known:
        indexes = set()
        for head, second, third in triples:
            if head != variable:
                continue
            if third == 255:
                if word == (second,):
                    indexes.add(1)
                continue
            for cut in range(1, len(word)):
                for i in indexes_of_word(second, word[:cut], triples, known):
                    for j in indexes_of_word(third, word[cut:], triples, known):
                        indexes.add(max(i, j) if i != j else i + 1)
        known[key] = indexes
    return known[key]


def indexes_by_words(rules, counts):
    """The indexes of all trees of variable 0 that say words that have the counts, each once."""
    triples = list(zip(rules[0::3], rules[1::3], rules[2::3]))
    known = {}
    indexes = set()
    for word in words_with(counts):
        indexes |= indexes_of_word(0, word, triples, known)
    return sorted(indexes)


def as_it_stands(row):
    return row


def letters_first(row):
    """The row in one order for all rows that have the same variables and letters."""
    return tuple(sorted(row))


def rows_from(a, triples, counts, tidy):
    """All rows that come from variable a by one rule or more, with at most one more place than the counts have letters.

    A letter x stands in a row as -1 - x, a variable as its number. No letter stands there more often than counted.
    """
    found = set()
    waiting = [(a,)]
    while waiting:
        row = waiting.pop()
        for place, part in enumerate(row):
            for head, second, third in triples:
                if head != part:
                    continue
                middle = (-1 - second,) if third == 255 else (second, third)
                longer = tidy(row[:place] + middle + row[place + 1:])
                if len(longer) > sum(counts) + 1 or longer in found:
                    continue
                if all(longer.count(-1 - x) <= count for x, count in enumerate(counts)):
                    found.add(longer)
                    waiting.append(longer)
    return found


def pump_by_rows(a, rules, counts, tidy=as_it_stands):
    """The answer of lc_pump, by going through the rows that come from a; tidy may put each row in order."""
    triples = list(zip(rules[0::3], rules[1::3], rules[2::3]))
    for row in rows_from(a, triples, counts, tidy):
        letters = [-1 - part for part in row if part < 0]
        if [part for part in row if part >= 0] == [a] and [letters.count(x) for x in range(len(counts))] == counts:
            return [1]
    return [0]


def steps_by_search(l, base, steps, counts):
    """The answer of lc_steps, by going through all numbers of times in order; no step is taken beyond the counts."""
    rows = [steps[k:k + l] for k in range(0, len(steps), l)]
    ranges = [range(1 + min(count // number for count, number in zip(counts, row) if number)) for row in rows]
    for times in itertools.product(*ranges):
        sums = [base[x] + sum(k * row[x] for k, row in zip(times, rows)) for x in range(l)]
        if sums == counts:
            return [0] + list(times)
    return [-5]


def random_counts(source, l, letters):
    """Counts of l letters, so many together."""
    counts = [0] * l
    for letter in range(letters):
        counts[source.randrange(l)] += 1
    return counts


def random_steps(seed, number):
    """Bases and steps with small counts, the same for the same seed: (l, c, base, steps, counts).

    Half of the counts are such as the steps come to.
    """
    source = random.Random(seed)
    for case in range(number):
        l = source.randint(1, 4)
        c = source.randint(0, 5)
        base = random_counts(source, l, source.randint(0, 3))
        rows = [random_counts(source, l, source.randint(1, 3)) for step in range(c)]
        if source.randrange(2):
            counts = random_counts(source, l, source.randint(0, 9))
        else:
            counts = list(base)
            for row in rows:
                times = source.choice([0, 0, 1, 2])
                counts = [count + times * number for count, number in zip(counts, row)]
        if sum(counts) <= 12:
            yield l, c, base, [number for row in rows for number in row], counts


def random_cases(seed, number):
    """Grammars with small counts, the same for the same seed: (v, l, r, rules, counts)."""
    source = random.Random(seed)
    for case in range(number):
        v = source.randint(1, 4)
        l = source.randint(1, 4)
        r = source.randint(1, 9)
        rules = []
        for rule in range(r):
            rules.append(source.randrange(v))
            if source.randrange(2):
                rules.extend([source.randrange(v), source.randrange(v)])
            else:
                rules.extend([source.randrange(l), 255])
        yield v, l, r, rules, random_counts(source, l, source.randint(0, 5))
