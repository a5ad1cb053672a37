"""The limits of the arguments of a line."""

from lineworks.errors import InvalidArgument

MOST_CHARACTERS = 2000
MOST_OF_NAME = 20
MOST_VALUES = 16
MOST_OF_TEXT = 100
GREATEST_VALUE = 1000000000000000
GREATEST_NUMBER = 1000000
MOST_NUMBERS = 60
GREATEST_COST = 1000
MOST_CASES = 1000


def check_arguments(**given):
    """Raises an error with the name of the first argument that breaks a rule. The order is the one given."""
    for name, value in given.items():
        keeps = RULES[name]
        if not keeps(value):
            raise InvalidArgument(name)


def is_source(text):
    return len(text) <= MOST_CHARACTERS


def is_name(text):
    return len(text) <= MOST_OF_NAME


def is_small_row(row):
    return len(row) <= MOST_VALUES and all([is_small_value(value) for value in row])


def is_small_value(value):
    if isinstance(value, str):
        return len(value) <= MOST_OF_TEXT
    return value is None or -GREATEST_VALUE <= value <= GREATEST_VALUE


def is_number(number):
    return 0 <= number <= GREATEST_NUMBER


def are_numbers(numbers):
    return len(numbers) <= MOST_NUMBERS and all([is_number(number) for number in numbers])


def are_costs(costs):
    return len(costs) <= MOST_NUMBERS and all([cost is None or 0 <= cost <= GREATEST_COST for cost in costs])


def are_chances(chances):
    return len(chances) <= MOST_NUMBERS and all([0 <= cases <= MOST_CASES for cases in chances])


RULES = {
    "source": is_source,
    "text": is_source,
    "table": is_name,
    "step": is_name,
    "other_step": is_name,
    "row": is_small_row,
    "other_row": is_small_row,
    "values": is_small_row,
    "entry": is_number,
    "version": is_number,
    "turned": are_numbers,
    "kept": are_numbers,
    "there": are_numbers,
    "costs": are_costs,
    "chances": are_chances,
}
