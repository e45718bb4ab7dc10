"""The text of a shop."""

from larderdays.errors import LineError
from larderdays.shops import MOST_DAYS, MOST_PATTERNS, MOST_SIDES, Shop, is_day, is_keep, is_pattern

DIGITS = "0123456789"
MOST_FIGURES = 7
MOST_BUDGET = 1000000


def format_shop(shop):
    """Return the text of a shop."""
    lines = [line_of("goods", shop.keep), line_of("sides", [shop.most])]
    if shop.budget is not None:
        lines.append(line_of("budget", [shop.budget]))
    for cost, counts in shop.patterns:
        lines.append(line_of("cut", [cost, *counts]))
    for orders in shop.week:
        lines.append(line_of("day", [order_word(order) for order in orders]))
    return "\n".join(lines)


def line_of(head, parts):
    """Return the line of a head and what stands behind it."""
    return " ".join([head] + [str(part) for part in parts])


def order_word(order):
    """Return the word of an order."""
    return ",".join([str(count) for count in order])


def parse_shop(text):
    """Return the shop of a text; raise LineError with the number of the first wrong line."""
    lines = [words_of(line) for line in text.split("\n")]
    keep = read_keep(lines, 1)
    most = read_single(lines, 2, "sides", 1, MOST_SIDES)
    budget = None
    first = 3
    if has_head(lines, first, "budget"):
        budget = read_single(lines, first, "budget", 0, MOST_BUDGET)
        first += 1
    patterns = read_patterns(lines, first, len(keep))
    week = read_week(lines, first + len(patterns), len(keep))
    return Shop(keep, patterns, most, week, budget)


def words_of(line):
    """Return the list of the words of a line."""
    # Only the space parts words: a bare split() would let tabs and the like pass.
    return [word for word in line.split(" ") if word]


def has_head(lines, number, head):
    """Return whether there is a line of this number, from 1, that begins with this word."""
    return number <= len(lines) and lines[number - 1][:1] == [head]


def read_tail(lines, number, head):
    """Return the words behind the head of a line."""
    if not has_head(lines, number, head):
        raise LineError(number)
    return lines[number - 1][1:]


def is_number(word):
    """Return whether a word is a number."""
    # Python's own test for digits takes signs of other scripts too.
    figures = 1 <= len(word) <= MOST_FIGURES and all(sign in DIGITS for sign in word)
    return figures and (word == "0" or word[0] != "0")


def read_numbers(words, number):
    """Return the numbers of words that stand in a line of this number."""
    if not all(is_number(word) for word in words):
        raise LineError(number)
    return [int(word) for word in words]


def read_keep(lines, number):
    """Return the days that the goods of a line keep."""
    keep = read_numbers(read_tail(lines, number, "goods"), number)
    if not is_keep(keep):
        raise LineError(number)
    return keep


def read_single(lines, number, head, least, most):
    """Return the one number of a line, from the least to the most."""
    numbers = read_numbers(read_tail(lines, number, head), number)
    if len(numbers) != 1 or not least <= numbers[0] <= most:
        raise LineError(number)
    return numbers[0]


def read_patterns(lines, first, goods):
    """Return the patterns of the lines from this number on."""
    patterns = [read_pattern(lines, first, goods)]
    # A line with a pattern too many is left to the days, of which it is none.
    while len(patterns) < MOST_PATTERNS and has_head(lines, first + len(patterns), "cut"):
        patterns.append(read_pattern(lines, first + len(patterns), goods))
    return patterns


def read_pattern(lines, number, goods):
    """Return the pattern of a line."""
    numbers = read_numbers(read_tail(lines, number, "cut"), number)
    if not numbers:
        raise LineError(number)
    pattern = (numbers[0], tuple(numbers[1:]))
    if not is_pattern(pattern, goods):
        raise LineError(number)
    return pattern


def read_week(lines, first, goods):
    """Return the days of the lines from this number on, up to the last one."""
    week = [read_day(lines, first, goods)]
    while first + len(week) <= len(lines):
        if len(week) == MOST_DAYS:
            raise LineError(first + MOST_DAYS)
        week.append(read_day(lines, first + len(week), goods))
    return week


def read_day(lines, number, goods):
    """Return the orders of a line."""
    words = read_tail(lines, number, "day")
    orders = [tuple(read_numbers(word.split(","), number)) for word in words]
    if not is_day(orders, goods):
        raise LineError(number)
    return orders
