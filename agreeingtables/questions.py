"""Tables about some of five yes-or-no questions, whether they agree, and whether they come from one."""

from agreeingtables.equations import can_be_met

FULL_MASK = 31
MOST_TABLES = 8
MOST_WEIGHT = 1000

BEGIN = 0
ADD = 1
SHARE = 2
AGREE = 3
JOINT = 4
POSSIBLE = 5
COVERED = 6
TREE = 7


class UnknownCall(ValueError):
    pass


def is_mask(number):
    return 0 <= number <= FULL_MASK


# The questions outside mask are left at 0. In rising order these numbers go with a table's places one by one:
# a later question is worth more than all earlier ones together, in the number as in the place.
def answers_within(mask):
    return [told for told in range(FULL_MASK + 1) if (told & mask) == told]


def is_table(mask, weights):
    if not is_mask(mask) or mask == 0:
        return False
    if len(weights) != len(answers_within(mask)):
        return False
    return all([weight <= MOST_WEIGHT for weight in weights])


# The weights are kept by the answers they are for, so that no one else has to know of places.
class Table:
    def __init__(self, mask, weights):
        self.mask = mask
        self.weights = dict(zip(answers_within(mask), weights))

    def shares(self, mask):
        sums = {}
        for told, weight in self.weights.items():
            sums[told & mask] = sums.get(told & mask, 0) + weight
        return sums

    def allows(self, told):
        return self.weights[told & self.mask] != 0

    def is_covered(self, possible_answers):
        given = {}
        for told in possible_answers:
            given[told & self.mask] = True
        return all([told in given for told, weight in self.weights.items() if weight != 0])


# Without a question in common the one share that is left is the sum of all weights, as the document asks.
def two_agree(first, second):
    common = first.mask & second.mask
    return first.shares(common) == second.shares(common)


# The numbers of all answers that answer every asked question by 1 are to sum up to total.
def equation(asked, total):
    return [1 if (told & asked) == asked else 0 for told in range(FULL_MASK + 1)] + [total]


def without_lone_questions(masks):
    seen = 0
    seen_again = 0
    for mask in masks:
        seen_again = seen_again | (seen & mask)
        seen = seen | mask
    return [mask & seen_again for mask in masks]


# A mask that another one is within is never the smaller number, so in falling order it comes first.
def without_inner_masks(masks):
    outer = []
    for mask in sorted(masks, reverse=True):
        if not any([(mask & other) == mask for other in outer]):
            outer.append(mask)
    return outer


def hang_together(masks):
    before = None
    left = masks
    while left != before:
        before = left
        left = without_inner_masks(without_lone_questions(left))
    return len(left) <= 1


class Tables:
    def __init__(self):
        self.kept = []

    def begin(self):
        self.kept = []
        return 0

    def add(self, mask, weights):
        if not is_table(mask, weights):
            return -1
        if len(self.kept) == MOST_TABLES:
            return -2
        self.kept.append(Table(mask, weights))
        return len(self.kept) - 1

    def share(self, i, mask, told):
        if i < 0 or i >= len(self.kept):
            return -1
        if not is_mask(mask) or not is_mask(told):
            return -1
        table = self.kept[i]
        if (mask & table.mask) != mask:
            return -1
        return table.shares(mask)[told & mask]

    def agree(self):
        for i, second in enumerate(self.kept):
            for first in self.kept[:i]:
                if not two_agree(first, second):
                    return 0
        return 1

    # One equation for each set of questions that a table is about, and not one for each weight: these are fewer. From
    # the shares that answer such sets by 1 throughout all weights follow, and tables that agree have them in common.
    def share_equations(self):
        totals = {}
        for table in self.kept:
            for asked in answers_within(table.mask):
                totals[asked] = table.shares(asked)[asked]
        return [equation(asked, total) for asked, total in totals.items()]

    def joint(self):
        if self.agree() == 0:
            return 0
        return 1 if can_be_met(self.share_equations()) else 0

    def is_possible(self, told):
        return all([table.allows(told) for table in self.kept])

    def all_possible(self):
        return [told for told in range(FULL_MASK + 1) if self.is_possible(told)]

    def possible(self):
        return len(self.all_possible())

    def covered(self):
        possible_answers = self.all_possible()
        return 1 if all([table.is_covered(possible_answers) for table in self.kept]) else 0

    def tree(self):
        return 1 if hang_together([table.mask for table in self.kept]) else 0


def end_of_call(calls, start):
    if calls[start] == ADD:
        return start + 3 + calls[start + 2]
    if calls[start] == SHARE:
        return start + 4
    return start + 1


def answer(tables, call):
    number = call[0]
    if number == BEGIN:
        return tables.begin()
    if number == ADD:
        return tables.add(call[1], call[3:])
    if number == SHARE:
        return tables.share(call[1], call[2], call[3])
    if number == AGREE:
        return tables.agree()
    if number == JOINT:
        return tables.joint()
    if number == POSSIBLE:
        return tables.possible()
    if number == COVERED:
        return tables.covered()
    if number == TREE:
        return tables.tree()
    raise UnknownCall(f"no call has the number {number}")


def answers(calls):
    tables = Tables()
    given = []
    start = 0
    while start < len(calls):
        end = end_of_call(calls, start)
        given.append(1)
        given.append(answer(tables, calls[start:end]))
        start = end
    return given
