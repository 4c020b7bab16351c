"""Calls written as lists of numbers, the answers parted call by call, and ways told by the document's words."""

import itertools

from joinplans.planner import answers

LEAST = -1000000000
GREATEST = 1000000000

begin = [0]
tree = [4]
count = [6]
order = [8]
plan = [10]


def table(columns):
    return [1, columns]


def row(number, *values):
    return [2, number, len(values), *values]


def question(*atoms):
    numbers = [number for atom in atoms for number in atom]
    return [3, len(numbers), *numbers]


def left(atom):
    return [5, atom]


def answered(*variables):
    return [7, len(variables), *variables]


def cost(*atoms):
    return [9, len(atoms), *atoms]


def atom(number, *terms):
    """A term is a whole number (a value) or a text with a variable's digit, such as 'v3'."""
    numbers = [number]
    for term in terms:
        numbers += [1, int(term[1:])] if isinstance(term, str) else [0, term]
    return numbers


def joined(*calls):
    return [number for call in calls for number in call]


def parted(numbers):
    told = []
    place = 0
    while place < len(numbers):
        behind = place + 1 + numbers[place]
        assert behind <= len(numbers), "an answer ends behind the list"
        told.append(numbers[place + 1:behind])
        place = behind
    return told


def told(*calls):
    """What each call is answered, one list each."""
    assert len(calls) <= 60, "more calls than are handed in"
    return parted(answers(joined(*calls)))


def told_last(*calls):
    return told(*calls)[-1]


def asked(tables, *atoms):
    """The calls that make the tables and ask; a table is how many columns it has and its rows."""
    calls = []
    for number, (columns, rows) in enumerate(tables):
        calls += [table(columns)] + [row(number, *values) for values in rows]
    return [*calls, question(*atoms)]


def sized(*sizes):
    """Tables with this many rows each, and an atom of each; no two of them share a variable."""
    tables = [(1, [(value,) for value in range(size)]) for size in sizes]
    return [tables, *[atom(number, f"v{number}") for number in range(len(sizes))]]


def written(atoms):
    """Atoms that are told as a table's number and terms, each as its numbers."""
    return [atom(*terms) for terms in atoms]


def bound_by(terms, values):
    """The variables with their values, or None where the row doesn't fit."""
    if any(isinstance(term, int) and term != value for term, value in zip(terms, values)):
        return None
    pairs = {(term, value) for term, value in zip(terms, values) if isinstance(term, str)}
    return dict(pairs) if len(dict(pairs)) == len(pairs) else None


def agree(first, second):
    return all(first[name] == second[name] for name in first.keys() & second.keys())


def ways_by_the_words(tables, atoms):
    """Each way as what its rows bind, one dict for each atom: every choice of rows is gone through."""
    choices = [[bound_by(terms, values) for values in tables[number][1]] for number, *terms in atoms]
    fitting = [[bound for bound in choice if bound is not None] for choice in choices]
    return [way for way in itertools.product(*fitting)
            if all(agree(first, second) for first, second in itertools.combinations(way, 2))]


def counts_by_the_words(tables, atoms):
    """How many ways there are of each choice of some atoms, by their numbers, ascending."""
    chosen = [some for length in range(1, len(atoms) + 1)
              for some in itertools.combinations(range(len(atoms)), length)]
    return {some: len(ways_by_the_words(tables, [atoms[number] for number in some])) for some in chosen}


def mixed_numbers(seed):
    """Numbers below 1000 without an end, always the same ones for a seed."""
    state = seed * 7919 + 17
    while True:
        state = (state * 1103515245 + 12345) % 2147483648
        yield state // 65536 % 1000


def mixed_question(seed):
    """Small tables and a question of 1 to 5 atoms, always the same ones for a seed."""
    numbers = mixed_numbers(seed)
    tables = []
    for _ in range(1 + next(numbers) % 3):
        columns = (2, 2, 1, 3, 0)[next(numbers) % 5]
        rows = [tuple(next(numbers) % 3 for _ in range(columns)) for _ in range(next(numbers) % 5)]
        tables.append((columns, sorted(set(rows))))
    atoms = []
    for _ in range(1 + seed % 5):
        number = next(numbers) % len(tables)
        terms = [f"v{next(numbers) % 5}" if next(numbers) % 6 else next(numbers) % 3 for _ in range(tables[number][0])]
        atoms.append((number, *terms))
    return tables, atoms
