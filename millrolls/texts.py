"""The text of a mill and orders, written and read."""

from millrolls.errors import LineError
from millrolls.mills import MOST_KNIVES, MOST_ROLLS, Mill, are_widths, is_order, is_roll, widest_roll

MOST_FIGURES = 3


def format_mill(mill, orders):
    """Return the text of a mill and of orders."""
    lines = [line_of("knives", [mill.knives])]
    lines.extend([line_of("roll", roll) for roll in mill.rolls])
    lines.append(line_of("widths", mill.widths))
    lines.extend([line_of("order", order) for order in orders])
    return "\n".join(lines)


def line_of(name, numbers):
    """Return the line of a name and numbers."""
    return " ".join([name] + [str(number) for number in numbers])


def parse_mill(text):
    """Return the tuple of the mill and the list of the orders of a text, or raise LineError."""
    lines = text.split("\n")
    knives = read_knives(lines)
    rolls = read_rolls(lines)
    mill = Mill(rolls, read_widths(lines, rolls), knives)
    behind = len(rolls) + 2
    return (mill, [read_order(mill, lines, place) for place in range(behind, len(lines))])


def read_knives(lines):
    """Return the most pieces of a roll, which the first line tells."""
    numbers = numbers_at(lines, 0, "knives")
    if len(numbers) != 1 or not 1 <= numbers[0] <= MOST_KNIVES:
        raise LineError(1)
    return numbers[0]


def read_rolls(lines):
    """Return the list of the kinds of rolls, which stand behind the first line."""
    rolls = [read_roll(lines, 1)]
    while len(rolls) < MOST_ROLLS and words_at(lines, len(rolls) + 1)[:1] == ["roll"]:
        rolls.append(read_roll(lines, len(rolls) + 1))
    return rolls


def read_roll(lines, place):
    """Return the tuple (width, cost) of the kind of rolls at a place."""
    numbers = numbers_at(lines, place, "roll")
    if len(numbers) != 2 or not is_roll(numbers[0], numbers[1]):
        raise LineError(place + 1)
    return (numbers[0], numbers[1])


def read_widths(lines, rolls):
    """Return the list of the widths, which stand behind the rolls."""
    place = len(rolls) + 1
    numbers = numbers_at(lines, place, "widths")
    if not are_widths(numbers, widest_roll(rolls)):
        raise LineError(place + 1)
    return numbers


def read_order(mill, lines, place):
    """Return the order at a place."""
    order = tuple(numbers_at(lines, place, "order"))
    if not is_order(mill, order):
        raise LineError(place + 1)
    return order


def numbers_at(lines, place, name):
    """Return the list of the numbers behind the name that must begin the line at a place."""
    words = words_at(lines, place)
    if words[:1] != [name] or not all([is_number(word) for word in words[1:]]):
        raise LineError(place + 1)
    return [int(word) for word in words[1:]]


def words_at(lines, place):
    """Return the list of the words of the line at a place."""
    # The line behind the last one has no words, so it is as wrong as an empty one.
    if place >= len(lines):
        return []
    return [word for word in lines[place].split(" ") if word != ""]


def is_number(word):
    """Return whether a word is a number without needless zeros and with at most 3 figures."""
    # Other alphabets have digits, too: only the ten of ASCII are figures here.
    are_figures = word.isascii() and word.isdigit() and len(word) <= MOST_FIGURES
    return are_figures and (word == "0" or not word.startswith("0"))
