"""How the tests write calls down and read what is answered."""

import itertools
from fractions import Fraction

from agreeingtables.questions import answers

LEAST = -2147483648
MOST = 2147483647

BEGIN = [0]
AGREE = [3]
JOINT = [4]
POSSIBLE = [5]
COVERED = [6]
TREE = [7]
ALL_ASKED = [AGREE, JOINT, POSSIBLE, COVERED, TREE]


def add(mask, weights):
    return [1, mask, len(weights)] + list(weights)


def share(i, mask, told):
    return [2, i, mask, told]


def size(mask):
    return 2 ** bin(mask).count("1")


def zeros(mask):
    return add(mask, [0] * size(mask))


def flat(calls):
    return [number for call in calls for number in call]


def run(*calls):
    """What each call answers, when begin and then these calls are made; begin's own answer is left out."""
    given = answers(flat([BEGIN] + list(calls)))
    if len(given) != 2 * (len(calls) + 1) or any(count != 1 for count in given[::2]):
        raise AssertionError(f"not one number for each call: {given}")
    return given[3::2]


def ask(call, tables):
    """What the call answers when these tables, pairs of mask and weights, have been added."""
    told = run(*[add(mask, weights) for mask, weights in tables], call)
    if told[:-1] != list(range(len(tables))):
        raise AssertionError(f"not all tables were taken: {told}")
    return told[-1]


def read_place(mask, place):
    """Which answers a place of a table stands for, as a dict from question to answer."""
    questions = [question for question in range(5) if (mask >> question) & 1]
    return {question: (place >> rank) & 1 for rank, question in enumerate(questions)}


def expected_share(table_mask, weights, mask, told):
    """The share by its definition: place by place and question by question."""
    total = 0
    for place, weight in enumerate(weights):
        read = read_place(table_mask, place)
        asked = [question for question in range(5) if (mask >> question) & 1]
        if all(read[question] == (told >> question) & 1 for question in asked):
            total += weight
    return total


def expected_agree(tables):
    """Whether every two of the tables, pairs of mask and weights, agree by the definition."""
    for (first_mask, first_weights), (second_mask, second_weights) in itertools.combinations(tables, 2):
        common = first_mask & second_mask
        for told in range(32):
            first = expected_share(first_mask, first_weights, common, told)
            if first != expected_share(second_mask, second_weights, common, told):
                return 0
    return 1


def table_from(whole, mask):
    """The weights of the table about mask that comes from one number for each answers to all."""
    weights = [0] * size(mask)
    for place in range(len(weights)):
        read = read_place(mask, place)
        for told, weight in enumerate(whole):
            if all((told >> question) & 1 == answer for question, answer in read.items()):
                weights[place] += weight
    return weights


def tables_from(whole, masks):
    return [(mask, table_from(whole, mask)) for mask in masks]


def agreeing_tables(chance, masks):
    """Tables that agree, whether or not they come from one: some of the numbers behind them may be below 0."""
    noise = chance.choice([0, 0, 1, 3])
    pulls = [chance.choice([-1, 1]) * chance.randrange(1, chance.choice([2, 4, 12])) for mask in masks]
    whole = [
        chance.randint(-noise, noise)
        + sum(pull * (-1) ** (told & mask).bit_count() for pull, mask in zip(pulls, masks))
        for told in range(32)]
    lowest = min(weight * len(weights) for mask, weights in tables_from(whole, masks) for weight in weights)
    lift = -(lowest // 32) + chance.choice([0, 0, 1])
    return tables_from([number + lift for number in whole], masks)


def answers_so(told, mask, place):
    return all((told >> question) & 1 == answer for question, answer in read_place(mask, place).items())


def possible_by_definition(tables):
    return [
        told for told in range(32)
        if all(
            weight != 0 for mask, weights in tables for place, weight in enumerate(weights)
            if answers_so(told, mask, place))
    ]


def expected_possible(tables):
    return len(possible_by_definition(tables))


def expected_covered(tables):
    possible = possible_by_definition(tables)
    return int(all(
        any(answers_so(told, mask, place) for told in possible)
        for mask, weights in tables for place, weight in enumerate(weights) if weight != 0))


def expected_tree(masks):
    """By another way than the document's: a tree of the masks, each hung to one of those before it by as many
    questions in common as can be, keeps all masks with a question in one piece just if these common questions are, in
    all, as many as those of the masks, less one for each question that is in any."""
    joined, left, taken = list(masks[:1]), list(masks[1:]), 0
    while left:
        common, best = max(((first & second).bit_count(), j) for first in joined for j, second in enumerate(left))
        taken += common
        joined.append(left.pop(best))
    asked = 0
    for mask in masks:
        asked |= mask
    return int(taken == sum(mask.bit_count() for mask in masks) - asked.bit_count())


def solve(rows, totals):
    """Numbers, none below 0, one for each column, whose sums by the rows are the totals; or else, with False before
    it, a factor for each row that shows that there are none."""
    height, width = len(rows), len(rows[0])
    work = [
        [Fraction(number) for number in row] + [Fraction(i == j) for j in range(height)] + [Fraction(total)]
        for i, (row, total) in enumerate(zip(rows, totals))]
    goal = [sum(column) for column in zip(*work)]
    held = list(range(width, width + height))
    while True:
        enter = next((j for j in range(width) if goal[j] > 0), None)
        if enter is None:
            break
        leave = min((work[i][-1] / work[i][enter], held[i], i) for i in range(height) if work[i][enter] > 0)[2]
        work[leave] = [number / work[leave][enter] for number in work[leave]]
        for row in work[:leave] + work[leave + 1:] + [goal]:
            if row[enter] != 0:
                row[:] = [a - row[enter] * b for a, b in zip(row, work[leave])]
        held[leave] = enter
    if goal[-1] > 0:
        return False, [goal[width + i] for i in range(height)]
    found = [Fraction(0)] * (width + height)
    for i, j in enumerate(held):
        found[j] = work[i][-1]
    return True, found[:width]


def expected_joint(tables):
    """Whether the tables come from one, with a proof that is held against the definition: the numbers themselves, or
    factors that no such numbers can bear."""
    if not tables:
        return 1
    if not expected_agree(tables):
        return 0
    shares = {}
    for mask, weights in tables:
        for asked in range(32):
            if asked & ~mask == 0:
                shares[asked] = expected_share(mask, weights, asked, 31)
    rows = [[int(told & asked == asked) for told in range(32)] for asked in shares]
    solved, proof = solve(rows, list(shares.values()))
    if solved:
        proven = min(proof) >= 0 and all(table_from(proof, mask) == list(weights) for mask, weights in tables)
    else:
        held = sum(factor * total for factor, total in zip(proof, shares.values()))
        proven = held > 0 and all(sum(a * b for a, b in zip(proof, column)) <= 0 for column in zip(*rows))
    if not proven:
        raise AssertionError(f"nothing is proven of {tables}")
    return int(solved)
