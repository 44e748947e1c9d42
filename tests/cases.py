"""Grammars and wrong inputs that the tests of several calls share."""

LEAST = -2147483648
MOST = 2147483647

# 0 comes to 0 0 or to a letter: every word of that letter, in every shape of tree.
ALL_OF_ONE_LETTER = [0, 0, 0, 0, 0, 255]

# Variable 0 says a b, or a, then a word of 0, then b: as many a as b.
AS_MANY = [0, 1, 2, 0, 1, 3, 3, 0, 2, 1, 0, 255, 2, 1, 255]

# 0 says just one word: of eight letters.
EIGHT_LONG = [0, 1, 7, 1, 2, 7, 2, 3, 7, 3, 4, 7, 4, 5, 7, 5, 6, 7, 6, 7, 7, 7, 0, 255]

# Each of eight variables comes to the next one twice, seven deep: 0 says a word of 128 letters only.
TOO_LONG = [number for a in range(7) for number in (a, a + 1, a + 1)] + [7, 0, 255]


# 0 says every word of letters 0 and 1 that is the same from behind and has an even number of letters.
SAME_FROM_BEHIND = [0, 1, 1, 0, 2, 2, 0, 1, 3, 3, 0, 1, 0, 2, 4, 4, 0, 2, 1, 0, 255, 2, 1, 255]


def brackets(left, right):
    """0 says every word in which each letter called left is closed by one called right."""
    return [0, 0, 0, 0, 1, 2, 0, 1, 3, 3, 0, 2, 1, left, 255, 2, right, 255]


def full_grammar():
    """64 rules of 8 variables over 4 letters: every pair in some order, and letters for each variable."""
    rules = []
    for b in range(8):
        for c in range(b, 8):
            rules.extend([(b + c) % 8, b, c])
    for k in range(28):
        rules.extend([k % 8, k // 2 % 4, 255])
    return rules


def even_grammar():
    """64 rules: each of 8 variables comes to each of 4 letters once, and to pairs by four rules.

    So all variables have the same trees but for the variables' numbers.
    """
    rules = []
    for a in range(8):
        for k in range(4):
            rules.extend([a, (a + k) % 8, (3 * a + 5 * k) % 8])
            rules.extend([a, k, 255])
    return rules


# (v, l, r) of which one number is out of its range.
WRONG_SIZES = [
    (0, 1, 1), (9, 1, 1), (-1, 1, 1), (LEAST, 1, 1), (MOST, 1, 1), (255, 4, 64),
    (1, 0, 1), (1, 5, 1), (1, -1, 1), (1, LEAST, 1), (1, MOST, 1), (8, 255, 64),
    (1, 1, 0), (1, 1, 65), (1, 1, -1), (1, 1, LEAST), (1, 1, MOST), (8, 4, 255),
    (0, 0, 0), (9, 5, 65), (LEAST, LEAST, LEAST), (MOST, MOST, MOST),
]

# (v, l, rules, counts) with sizes in their ranges, but a rule or the counts wrong.
WRONG_GIVEN = [
    (1, 1, [1, 0, 255], [1]),
    (1, 1, [1, 0, 0], [1]),
    (8, 4, [8, 0, 0], [1, 0, 0, 0]),
    (8, 4, [255, 0, 0], [1, 0, 0, 0]),
    (8, 4, [255, 0, 255], [1, 0, 0, 0]),
    (1, 1, [0, 1, 0], [1]),
    (3, 4, [0, 3, 0], [1, 0, 0, 0]),
    (8, 4, [0, 8, 0], [1, 0, 0, 0]),
    (8, 4, [0, 255, 0], [1, 0, 0, 0]),
    (8, 4, [0, 255, 7], [1, 0, 0, 0]),
    (1, 1, [0, 0, 1], [1]),
    (3, 4, [0, 0, 3], [1, 0, 0, 0]),
    (8, 4, [0, 0, 8], [1, 0, 0, 0]),
    (8, 4, [0, 0, 254], [1, 0, 0, 0]),
    (1, 1, [0, 1, 255], [1]),
    (8, 1, [0, 1, 255], [1]),
    (8, 3, [0, 3, 255], [1, 0, 0]),
    (8, 4, [0, 4, 255], [1, 0, 0, 0]),
    (8, 4, [0, 254, 255], [1, 0, 0, 0]),
    (8, 4, [0, 255, 255], [1, 0, 0, 0]),
    (1, 1, [0, 0, 255, 0, 0, 0, 0, 0, 1], [1]),
    (1, 1, [0, 0, 255, 0, 0, 0, 0, 1, 255], [0]),
    (1, 1, [0, 0, 255], [25]),
    (1, 1, [0, 0, 255], [255]),
    (1, 2, [0, 0, 255], [24, 1]),
    (1, 2, [0, 0, 255], [1, 24]),
    (8, 4, [0, 0, 255], [7, 6, 6, 6]),
    (8, 4, [0, 0, 255], [0, 0, 0, 25]),
    (8, 4, [0, 0, 255], [255, 255, 255, 255]),
    (1, 1, [1, 0, 255], [25]),
]


def refuse_change(*args, **kwargs):
    raise RuntimeError("what is handed in was changed")


class Unchanging(list):
    """A list that tells of every change, also one that would be taken back."""

    __setitem__ = __delitem__ = __iadd__ = __imul__ = refuse_change
    append = extend = insert = pop = remove = clear = sort = reverse = refuse_change


def is_list_of_numbers(answer):
    """Whether the answer is a plain list of plain whole numbers, no True or False among them."""
    return type(answer) is list and all(type(number) is int for number in answer)
