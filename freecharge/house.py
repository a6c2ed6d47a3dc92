"""The house: the sets of the variables on both sides, what is related of them, and the calls on these."""

from freecharge.kinds import kind_size, read_kind_row
from freecharge.reader import Reader
from freecharge.refusals import TooLarge, Unfit, UnknownCall

BEGIN = 0
SETS = 1
RELATE = 2
SIZE = 3

SIDES = 2
MOST_VARIABLES = 3
LARGEST_SET = 3


class House:
    """What the calls of one list are about. Each call's method gives back the numbers that are answered."""

    def __init__(self):
        self.begin(1)

    def begin(self, variables):
        if variables < 1 or variables > MOST_VARIABLES:
            raise Unfit()
        self.set_sizes = [[1] * variables, [1] * variables]
        self.told_pairs = [{} for variable in range(variables)]
        return [0]

    def variables(self):
        return len(self.told_pairs)

    def sets(self, variable, left_size, right_size):
        if variable >= self.variables() or left_size > LARGEST_SET or right_size > LARGEST_SET:
            raise Unfit()
        self.set_sizes[0][variable] = left_size
        self.set_sizes[1][variable] = right_size
        self.told_pairs[variable] = {}
        return [0]

    def relate(self, variable, left, right):
        if variable >= self.variables():
            raise Unfit()
        if left >= self.set_sizes[0][variable] or right >= self.set_sizes[1][variable]:
            raise Unfit()
        if (left, right) in self.told_pairs[variable]:
            return [0]
        self.told_pairs[variable][(left, right)] = True
        return [1]

    def size(self, side, row):
        if side >= SIDES:
            raise Unfit()
        nodes = read_kind_row(row, self.variables())
        return [kind_size(nodes, self.set_sizes[side])]


def answers(calls):
    """For each call of the list, in order: how many numbers are answered, then these."""
    house = House()
    reader = Reader(calls)
    answered = []
    while not reader.at_end():
        answer = answer_or_refusal(house, reader)
        answered.append(len(answer))
        answered.extend(answer)
    return answered


def answer_or_refusal(house, reader):
    try:
        return answer_call(house, reader)
    except Unfit:
        return [-1]
    except TooLarge:
        return [-8]


def answer_call(house, reader):
    # A call's numbers are all taken before it is carried out, so a refusal leaves the reader at the next call.
    call = reader.take()
    if call == BEGIN:
        return house.begin(reader.take())
    if call == SETS:
        return house.sets(reader.take(), reader.take(), reader.take())
    if call == RELATE:
        return house.relate(reader.take(), reader.take(), reader.take())
    if call == SIZE:
        return house.size(reader.take(), reader.take_row())
    raise UnknownCall()
