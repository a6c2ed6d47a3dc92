"""How the tests write calls and read answers."""

from freecharge.house import answers

TWO = [1]
BIGGEST = 4294967295


def var(i):
    return [0, i]


def pair(first, second):
    return [2] + first + second


def either(first, second):
    return [3] + first + second


def function(taken, given):
    return [4] + taken + given


def begin(k):
    return [0, k]


def sets(i, n, m):
    return [1, i, n, m]


def relate(i, x, y):
    return [2, i, x, y]


def size(side, row):
    return [3, side, len(row)] + row


def meaning(side, row):
    return [4, side, len(row)] + row


def related(x, y, row):
    return [5, x, y, len(row)] + row


def count(row):
    return [6, len(row)] + row


def kept(row):
    return [7, len(row)] + row


YES = [9]
NO = [10]


def use(number):
    """The term that is a variable."""
    return [0, number]


def both(first_term, second_term):
    return [1] + first_term + second_term


def first(term):
    return [2] + term


def second(term):
    return [3] + term


def left(second_type, term):
    return [4] + second_type + term


def right(first_type, term):
    return [5] + first_type + term


def cases(term, for_left, for_right):
    return [6] + term + for_left + for_right


def taking(argument, body):
    """The term that is a function."""
    return [7] + argument + body


def put(term, argument):
    return [8] + term + argument


def ask_if(term, for_yes, for_no):
    return [11] + term + for_yes + for_no


def joined(calls):
    numbers = []
    for call in calls:
        numbers.extend(call)
    return numbers


def split(answered):
    """The answers one by one, each as the list of its numbers."""
    found = []
    place = 0
    while place < len(answered):
        count = answered[place]
        found.append(answered[place + 1:place + 1 + count])
        if len(found[-1]) != count or count < 1:
            raise AssertionError(f"an answer's count is wrong: {answered}")
        place += 1 + count
    return found


def tell(*calls):
    """What each of these calls answers, on one new house: its numbers."""
    found = split(answers(joined(calls)))
    if len(found) != len(calls):
        raise AssertionError(f"not one answer for each call: {found}")
    return found


def last(*calls):
    """What the last of these calls answers."""
    return tell(*calls)[-1]


def ask(*calls):
    """What each of these calls answers, on one new house: its only number."""
    found = tell(*calls)
    if any(len(answer) != 1 for answer in found):
        raise AssertionError(f"not one number for each call: {found}")
    return [answer[0] for answer in found]


def probe(variables):
    """Calls that tell how large each set is, and whether 0 was related to 0."""
    calls = []
    for i in range(variables):
        calls += [size(0, var(i)), size(1, var(i)), relate(i, 0, 0)]
    return calls
