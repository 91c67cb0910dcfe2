"""How the tests write calls down and read what is answered."""

import itertools

from agreeingtables.questions import answers

LEAST = -2147483648
MOST = 2147483647

BEGIN = [0]
AGREE = [3]


def add(mask, weights):
    return [1, mask, len(weights)] + list(weights)


def share(i, mask, told):
    return [2, i, mask, told]


def size(mask):
    return 2 ** bin(mask).count("1")


def zeros(mask):
    return add(mask, [0] * size(mask))


def flat(calls):
    return [number for call in calls for number in call]


def run(*calls):
    """What each call answers, when begin and then these calls are made; begin's own answer is left out."""
    given = answers(flat([BEGIN] + list(calls)))
    if len(given) != 2 * (len(calls) + 1) or any(count != 1 for count in given[::2]):
        raise AssertionError(f"not one number for each call: {given}")
    return given[3::2]


def read_place(mask, place):
    """Which answers a place of a table stands for, as a dict from question to answer."""
    questions = [question for question in range(5) if (mask >> question) & 1]
    return {question: (place >> rank) & 1 for rank, question in enumerate(questions)}


def expected_share(table_mask, weights, mask, told):
    """The share by its definition: place by place and question by question."""
    total = 0
    for place, weight in enumerate(weights):
        read = read_place(table_mask, place)
        asked = [question for question in range(5) if (mask >> question) & 1]
        if all(read[question] == (told >> question) & 1 for question in asked):
            total += weight
    return total


def expected_agree(tables):
    """Whether every two of the tables, pairs of mask and weights, agree by the definition."""
    for (first_mask, first_weights), (second_mask, second_weights) in itertools.combinations(tables, 2):
        common = first_mask & second_mask
        for told in range(32):
            first = expected_share(first_mask, first_weights, common, told)
            if first != expected_share(second_mask, second_weights, common, told):
                return 0
    return 1


def table_from(whole, mask):
    """The weights of the table about mask that comes from one table of all five questions."""
    weights = [0] * size(mask)
    for place in range(len(weights)):
        read = read_place(mask, place)
        for told, weight in enumerate(whole):
            if all((told >> question) & 1 == answer for question, answer in read.items()):
                weights[place] += weight
    return weights
