"""Tables about some of five yes-or-no questions, and whether they agree on what they share."""

FULL_MASK = 31
MOST_TABLES = 8
MOST_WEIGHT = 1000

BEGIN = 0
ADD = 1
SHARE = 2
AGREE = 3


class UnknownCall(ValueError):
    pass


def is_mask(number):
    return 0 <= number <= FULL_MASK


# The questions outside mask are left at 0. In rising order these numbers go with a table's places one by one:
# a later question is worth more than all earlier ones together, in the number as in the place.
def answers_within(mask):
    return [told for told in range(FULL_MASK + 1) if (told & mask) == told]


def is_table(mask, weights):
    if not is_mask(mask) or mask == 0:
        return False
    if len(weights) != len(answers_within(mask)):
        return False
    return all([weight <= MOST_WEIGHT for weight in weights])


# The weights are kept by the answers they are for, so that no one else has to know of places.
class Table:
    def __init__(self, mask, weights):
        self.mask = mask
        self.weights = dict(zip(answers_within(mask), weights))

    def shares(self, mask):
        sums = {}
        for told, weight in self.weights.items():
            sums[told & mask] = sums.get(told & mask, 0) + weight
        return sums


# Without a question in common the one share that is left is the sum of all weights, as the document asks.
def two_agree(first, second):
    common = first.mask & second.mask
    return first.shares(common) == second.shares(common)


class Tables:
    def __init__(self):
        self.kept = []

    def begin(self):
        self.kept = []
        return 0

    def add(self, mask, weights):
        if not is_table(mask, weights):
            return -1
        if len(self.kept) == MOST_TABLES:
            return -2
        self.kept.append(Table(mask, weights))
        return len(self.kept) - 1

    def share(self, i, mask, told):
        if i < 0 or i >= len(self.kept):
            return -1
        if not is_mask(mask) or not is_mask(told):
            return -1
        table = self.kept[i]
        if (mask & table.mask) != mask:
            return -1
        return table.shares(mask)[told & mask]

    def agree(self):
        for i, second in enumerate(self.kept):
            for first in self.kept[:i]:
                if not two_agree(first, second):
                    return 0
        return 1


def end_of_call(calls, start):
    if calls[start] == ADD:
        return start + 3 + calls[start + 2]
    if calls[start] == SHARE:
        return start + 4
    return start + 1


def answer(tables, call):
    number = call[0]
    if number == BEGIN:
        return tables.begin()
    if number == ADD:
        return tables.add(call[1], call[3:])
    if number == SHARE:
        return tables.share(call[1], call[2], call[3])
    if number == AGREE:
        return tables.agree()
    raise UnknownCall(f"no call has the number {number}")


def answers(calls):
    tables = Tables()
    given = []
    start = 0
    while start < len(calls):
        end = end_of_call(calls, start)
        given.append(1)
        given.append(answer(tables, calls[start:end]))
        start = end
    return given
