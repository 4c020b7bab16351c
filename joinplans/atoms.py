"""Atoms: how they are read from a question's list, and which rows fit them."""

from joinplans.tables import is_value

MOST_ATOMS = 5
GREATEST_VARIABLE = 9
VALUE_TERM = 0
VARIABLE_TERM = 1


# The table itself is kept, not its rows: rows that come behind the question count too.
class Atom:
    def __init__(self, table, terms):
        self.table = table
        self.terms = terms


class FittingRow:
    def __init__(self, row, bound):
        self.row = row
        self.bound = bound


def is_term(kind, number):
    if kind == VALUE_TERM:
        return is_value(number)
    return kind == VARIABLE_TERM and 0 <= number <= GREATEST_VARIABLE


def read_atom(tables, numbers, place):
    if not 0 <= numbers[place] < len(tables):
        return None
    table = tables[numbers[place]]
    behind = place + 1 + 2 * table.columns
    if behind > len(numbers):
        return None
    terms = [(numbers[k], numbers[k + 1]) for k in range(place + 1, behind, 2)]
    if not all([is_term(term[0], term[1]) for term in terms]):
        return None
    return Atom(table, terms)


def read_atoms(tables, numbers):
    atoms = []
    place = 0
    while place < len(numbers):
        atom = read_atom(tables, numbers, place)
        if atom is None or len(atoms) == MOST_ATOMS:
            return None
        atoms.append(atom)
        place += 1 + 2 * len(atom.terms)
    return atoms


def variables_of(atom):
    variables = {}
    for kind, number in atom.terms:
        if kind == VARIABLE_TERM:
            variables[number] = True
    return variables


# None where the row does not fit: an empty dict is what an atom without variables binds.
def bind(atom, row):
    bound = {}
    for term, value in zip(atom.terms, row):
        if term[0] == VALUE_TERM:
            if term[1] != value:
                return None
        elif bound.setdefault(term[1], value) != value:
            return None
    return bound


def fitting_rows(atom):
    fitting = []
    for row in sorted(atom.table.rows):
        bound = bind(atom, row)
        if bound is not None:
            fitting.append(FittingRow(row, bound))
    return fitting


def agree(bound, other):
    for variable, value in bound.items():
        if other.get(variable, value) != value:
            return False
    return True
