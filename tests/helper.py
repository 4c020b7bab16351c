"""Calls written as lists of numbers, and the answers parted call by call."""

from joinplans.planner import answers

LEAST = -1000000000
GREATEST = 1000000000

begin = [0]
tree = [4]


def table(columns):
    return [1, columns]


def row(number, *values):
    return [2, number, len(values), *values]


def question(*atoms):
    numbers = [number for atom in atoms for number in atom]
    return [3, len(numbers), *numbers]


def left(atom):
    return [5, atom]


def atom(number, *terms):
    """A term is a whole number (a value) or a text with a variable's digit, such as 'v3'."""
    numbers = [number]
    for term in terms:
        numbers += [1, int(term[1:])] if isinstance(term, str) else [0, term]
    return numbers


def joined(*calls):
    return [number for call in calls for number in call]


def parted(numbers):
    told = []
    place = 0
    while place < len(numbers):
        behind = place + 1 + numbers[place]
        assert behind <= len(numbers), "an answer ends behind the list"
        told.append(numbers[place + 1:behind])
        place = behind
    return told


def told(*calls):
    """What each call is answered, one list each."""
    return parted(answers(joined(*calls)))


def told_last(*calls):
    return told(*calls)[-1]
