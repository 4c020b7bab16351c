"""The calls on one object: read from one list, answered into one list."""

from joinplans.atoms import read_atoms, variables_of
from joinplans.hanging import take_off
from joinplans.leftover import rows_left
from joinplans.plans import WayCounts, cheapest_order, cheapest_plan, is_order, order_cost
from joinplans.tables import Store, Table, is_row_of
from joinplans.ways import count_ways, group_ways, parts_of, pick, places_of

BEGIN = 0
TABLE = 1
ROW = 2
QUESTION = 3
TREE = 4
LEFT = 5
COUNT = 6
ANSWERS = 7
ORDER = 8
COST = 9

WRONG = -1
NO_QUESTION = -5
FULL = -6

MOST_TABLES = 6
MOST_COLUMNS = 4
MOST_ROWS = 10


class Reader:
    def __init__(self, numbers):
        self.numbers = numbers
        self.place = 0

    def has_more(self):
        return self.place < len(self.numbers)

    def take_number(self):
        number = self.numbers[self.place]
        self.place += 1
        return number

    def take_list(self):
        length = self.take_number()
        start = self.place
        self.place += length
        return self.numbers[start:self.place]


def begin(store):
    store.tables = []
    store.question = []
    return [0]


def add_table(store, columns):
    if not 0 <= columns <= MOST_COLUMNS:
        return [WRONG]
    if len(store.tables) == MOST_TABLES:
        return [FULL]
    store.tables.append(Table(columns))
    return [len(store.tables) - 1]


# A row that is there already is told before the table is found full.
def add_row(store, number, values):
    if not 0 <= number < len(store.tables):
        return [WRONG]
    table = store.tables[number]
    if not is_row_of(table, values):
        return [WRONG]
    row = tuple(values)
    if row in table.rows:
        return [0]
    if len(table.rows) == MOST_ROWS:
        return [FULL]
    table.rows.append(row)
    return [1]


def ask(store, numbers):
    atoms = read_atoms(store.tables, numbers)
    if atoms is None:
        return [WRONG]
    store.question = atoms
    return [len(atoms)]


def tell_tree(question):
    hanging = take_off(question)
    told = [1 if len(hanging.standing) == 1 else 0, len(hanging.taken)]
    for pair in hanging.taken:
        told.extend(pair)
    told.append(len(hanging.standing))
    told.extend(hanging.standing)
    return told


def tell_left(question, atom):
    if not 0 <= atom < len(question):
        return [WRONG]
    left = rows_left(question)[atom]
    told = [len(left)]
    for fitting in left:
        told.extend(fitting.row)
    return told


def some_atom_has(question, variable):
    return any([variable in variables_of(atom) for atom in question])


# A variable that is asked for twice makes no new rows and no other order, so the rows are told by each once
# and written out at the end.
def tell_answers(question, variables):
    if not all([some_atom_has(question, variable) for variable in variables]):
        return [WRONG]
    groups = group_ways(parts_of(question), variables)
    places = places_of(variables, groups.variables)
    told = [len(groups.sizes)]
    for group in sorted(groups.sizes):
        told.extend(pick(group, places))
    return told


def tell_order(question):
    counts = WayCounts(question)
    order = cheapest_order(counts)
    return [order_cost(counts, order)] + list(order)


def tell_cost(question, order):
    if not is_order(order, question):
        return [WRONG]
    return [order_cost(WayCounts(question), order)]


def tell_plan(question):
    plan = cheapest_plan(WayCounts(question))
    return [plan.cost] + plan.steps


def answer_with(question, call, numbers):
    if call == TREE:
        return tell_tree(question)
    if call == LEFT:
        return tell_left(question, numbers[0])
    if call == COUNT:
        return [count_ways(parts_of(question))]
    if call == ANSWERS:
        return tell_answers(question, numbers)
    if call == ORDER:
        return tell_order(question)
    if call == COST:
        return tell_cost(question, numbers)
    return tell_plan(question)


# The numbers are taken ahead of a refusal, or the next call would begin within this one.
def answer_of_question(store, call, reader):
    numbers = []
    if call == LEFT:
        numbers = [reader.take_number()]
    elif call == ANSWERS or call == COST:
        numbers = reader.take_list()
    if len(store.question) == 0:
        return [NO_QUESTION]
    return answer_with(store.question, call, numbers)


def answer_call(store, reader):
    call = reader.take_number()
    if call == BEGIN:
        return begin(store)
    if call == TABLE:
        return add_table(store, reader.take_number())
    if call == ROW:
        number = reader.take_number()
        return add_row(store, number, reader.take_list())
    if call == QUESTION:
        return ask(store, reader.take_list())
    return answer_of_question(store, call, reader)


def answers(calls):
    store = Store()
    reader = Reader(calls)
    told = []
    while reader.has_more():
        numbers = answer_call(store, reader)
        told.append(len(numbers))
        told.extend(numbers)
    return told
