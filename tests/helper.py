"""Writes calls as the interface tells them, and reads their answers."""

from modelformulas.designs import answers


def coded(text):
    """The bytes of a written text; a list stays as it is."""
    return list(text) if isinstance(text, list) else [ord(sign) for sign in text]


def row(text):
    numbers = coded(text)
    return [len(numbers)] + numbers


def create():
    return [0]


def add_factor(levels, coding, name):
    return [1, levels, coding] + row(name)


def set_coding(factor, coding):
    return [2, factor, coding]


def check(text):
    return [3] + row(text)


def set_model(text):
    return [4] + row(text)


def terms():
    return [5]


def term_text(index):
    return [6, index]


def format_text(text):
    return [7] + row(text)


def model_text():
    return [8]


def degrees(index):
    return [9, index]


def total_degrees():
    return [10]


def is_closed():
    return [11]


def close():
    return [12]


def compare(first, second):
    return [13] + row(first) + row(second)


def coding(factor):
    return [14, factor]


def add_run(levels):
    return [15] + row(levels)


def remove_run(index):
    return [16, index]


def full_factorial():
    return [17]


def clear_runs():
    return [18]


def get_run(index):
    return [19, index]


def row_of(levels):
    return [20] + row(levels)


def matrix():
    return [21]


def rank():
    return [22]


def aliased():
    return [23]


def information():
    return [24]


def determinant():
    return [25]


def is_estimable(vector):
    return [26] + row(vector)


def summary():
    return [27]


def coded_factors(level_counts, codings):
    """Calls that create an object with factors called a, b and so on."""
    return [create()] + [add_factor(levels, number, name)
                         for levels, number, name in zip(level_counts, codings, "abcdef")]


def factors(names, levels=2):
    """Calls that create an object with a factor for each letter."""
    return [create()] + [add_factor(levels, 0, name) for name in names]


def flat(calls):
    return [number for call in calls for number in call]


def split(told):
    """The answers to the single calls."""
    parts = []
    place = 0
    while place < len(told):
        end = place + 1 + told[place]
        parts.append(told[place + 1:end])
        place = end
    return parts


def run(calls):
    """A list of answers, one for each call."""
    return split(answers(flat(calls)))


def run_behind(start, calls):
    """The answers to the calls, in requests that each begin with the calls of start."""
    room = 200 - len(start)
    told = []
    for place in range(0, len(calls), room):
        told += run(start + calls[place:place + room])[len(start):]
    return told


def told_text(text):
    """The answer that tells this text."""
    return [len(text)] + coded(text)


def read_text(answer):
    """The text that an answer tells."""
    return "".join(chr(byte) for byte in answer[1:])
