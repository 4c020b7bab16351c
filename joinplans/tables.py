"""Tables and their rows, and what one list of calls keeps."""

LEAST_VALUE = -1000000000
GREATEST_VALUE = 1000000000


class Table:
    def __init__(self, columns):
        self.columns = columns
        self.rows = []


# A question without atoms is no question, so an empty list stands for none.
class Store:
    def __init__(self):
        self.tables = []
        self.question = []


def is_value(number):
    return LEAST_VALUE <= number <= GREATEST_VALUE


def is_row_of(table, numbers):
    return len(numbers) == table.columns and all([is_value(number) for number in numbers])
