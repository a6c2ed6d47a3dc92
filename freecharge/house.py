"""The house: the sets of the variables on both sides, what is related of them, and the calls on these."""

from freecharge.faults import give_kinds
from freecharge.keeping import kept_values, refuse_too_many
from freecharge.kinds import LARGEST, kind_row, kind_size, read_kind_row
from freecharge.meanings import term_meaning
from freecharge.reader import Reader
from freecharge.refusals import FaultyTerm, TooLarge, TooManyRelations, Unfit, UnknownCall
from freecharge.relations import is_marked, kind_relation, places, refuse_too_large
from freecharge.terms import read_term_row

BEGIN = 0
SETS = 1
RELATE = 2
SIZE = 3
MEANING = 4
RELATED = 5
COUNT = 6
KEPT = 7

SIDES = 2
MOST_VARIABLES = 3
LARGEST_SET = 3

HEAVIEST_KIND = 1000000
LARGEST_COUNTED = 32
HEAVIEST_COUNTED = 4096


class House:
    """What the calls of one list are about. Each call's method gives back the numbers that are answered."""

    def __init__(self):
        self.begin(1)

    def begin(self, variables):
        if variables < 1 or variables > MOST_VARIABLES:
            raise Unfit()
        self.set_sizes = [[1] * variables, [1] * variables]
        self.told_relations = [[0] for variable in range(variables)]
        return [0]

    def variables(self):
        return len(self.told_relations)

    def sets(self, variable, left_size, right_size):
        if variable >= self.variables() or left_size > LARGEST_SET or right_size > LARGEST_SET:
            raise Unfit()
        self.set_sizes[0][variable] = left_size
        self.set_sizes[1][variable] = right_size
        self.told_relations[variable] = [0] * left_size
        return [0]

    def relate(self, variable, left, right):
        if variable >= self.variables():
            raise Unfit()
        if left >= self.set_sizes[0][variable] or right >= self.set_sizes[1][variable]:
            raise Unfit()
        relation = self.told_relations[variable]
        if is_marked(relation[left], right):
            return [0]
        relation[left] = relation[left] | (1 << right)
        return [1]

    def size(self, side, row):
        if side >= SIDES:
            raise Unfit()
        kind = read_kind_row(row, self.variables())
        return [kind_size(kind, self.set_sizes[side], LARGEST)]

    def meaning(self, side, row):
        if side >= SIDES:
            raise Unfit()
        parts = read_term_row(row, self.variables())
        give_kinds(parts[0], [])
        number = term_meaning(parts, self.set_sizes[side])
        return [number] + kind_row(parts[0].kind)

    def relation_of(self, kind, largest, heaviest):
        refuse_too_large(kind, self.set_sizes[0], self.set_sizes[1], largest, heaviest)
        return kind_relation(kind, self.set_sizes[1], self.told_relations, largest)

    def related(self, left, right, row):
        kind = read_kind_row(row, self.variables())
        relation = self.relation_of(kind, LARGEST, HEAVIEST_KIND)
        if left >= len(relation) or right >= kind_size(kind, self.set_sizes[1], LARGEST):
            raise Unfit()
        return [1 if is_marked(relation[left], right) else 0]

    def count(self, row):
        kind = read_kind_row(row, self.variables())
        relation = self.relation_of(kind, LARGEST_COUNTED, HEAVIEST_COUNTED)
        right_size = kind_size(kind, self.set_sizes[1], LARGEST_COUNTED)
        pairs = []
        for left, marks in enumerate(relation):
            pairs.extend([(left, right) for right in places(marks, right_size)])
        if len(pairs) == 0:
            return [0]
        return [len(pairs), pairs[0][0], pairs[0][1]]

    def kept(self, row):
        kind = read_kind_row(row, self.variables())
        left_sizes = self.set_sizes[0]
        refuse_too_many(left_sizes)
        refuse_too_large(kind, left_sizes, left_sizes, LARGEST_COUNTED, HEAVIEST_COUNTED)
        kept = kept_values(kind, left_sizes, LARGEST_COUNTED)
        return [len(kept)] + kept


def answers(calls):
    """For each call of the list, in order: how many numbers are answered, then these."""
    house = House()
    reader = Reader(calls)
    answered = []
    while not reader.at_end():
        answer = answer_or_refusal(house, reader)
        answered.append(len(answer))
        answered.extend(answer)
    return answered


def answer_or_refusal(house, reader):
    try:
        return answer_call(house, reader)
    except Unfit:
        return [-1]
    except TooManyRelations:
        return [-3]
    except FaultyTerm as faulty:
        return [-7, faulty.part_number, faulty.fault]
    except TooLarge:
        return [-8]


def answer_call(house, reader):
    # A call's numbers are all taken before it is carried out, so a refusal leaves the reader at the next call.
    call = reader.take()
    if call == BEGIN:
        return house.begin(reader.take())
    if call == SETS:
        return house.sets(reader.take(), reader.take(), reader.take())
    if call == RELATE:
        return house.relate(reader.take(), reader.take(), reader.take())
    if call == SIZE:
        return house.size(reader.take(), reader.take_row())
    if call == MEANING:
        return house.meaning(reader.take(), reader.take_row())
    if call == RELATED:
        return house.related(reader.take(), reader.take(), reader.take_row())
    if call == COUNT:
        return house.count(reader.take_row())
    if call == KEPT:
        return house.kept(reader.take_row())
    raise UnknownCall()
