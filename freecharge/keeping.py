"""Which values of a kind are kept by all relations of a side's sets with themselves."""

from freecharge.kinds import kind_size
from freecharge.refusals import TooManyRelations
from freecharge.relations import is_marked, kind_relation

LARGEST_KEPT_SET = 2
MOST_PAIRS = 8


def refuse_too_many(set_sizes):
    if max(set_sizes) > LARGEST_KEPT_SET or pairs_of_all(set_sizes) > MOST_PAIRS:
        raise TooManyRelations()


def pairs_of_all(set_sizes):
    return sum([size * size for size in set_sizes])


def kept_values(kind, set_sizes, largest):
    """The numbers, rising, of the values that are related to themselves whatever is related of the variables."""
    kept = list(range(kind_size(kind, set_sizes, largest)))
    for chosen in range(1 << pairs_of_all(set_sizes)):
        relation = kind_relation(kind, set_sizes, chosen_relations(chosen, set_sizes), largest)
        kept = [value for value in kept if is_marked(relation[value], value)]
    return kept


def chosen_relations(chosen, set_sizes):
    """The relations of all variables that one whole number tells, bit by bit."""
    relations = []
    rest = chosen
    for size in set_sizes:
        relation = []
        for value in range(size):
            relation.append(rest & ((1 << size) - 1))
            rest = rest >> size
        relations.append(relation)
    return relations
