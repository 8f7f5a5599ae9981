"""The tokens of a formula: names, numbers and symbols, with their positions."""

from modelformulas.failures import FormulaFailure, NO_TOKEN

LONGEST_NAME = 12
LONGEST_NUMBER = 2
SPACE = 32
UNDERSCORE = 95
ZERO = 48
NINE = 57
FIRST_LETTER = 97
LAST_LETTER = 122

SYMBOLS = {43: "+", 45: "-", 42: "*", 47: "/", 58: ":", 94: "^", 40: "(", 41: ")"}


def is_letter(byte):
    return FIRST_LETTER <= byte <= LAST_LETTER


def is_digit(byte):
    return ZERO <= byte <= NINE


def is_name_part(byte):
    return is_letter(byte) or is_digit(byte) or byte == UNDERSCORE


def run_end(text, start, is_part):
    """The position behind the bytes from start on that are parts."""
    end = start
    while end < len(text) and is_part(text[end]):
        end += 1
    return end


def is_name(name):
    """Whether the whole list of bytes is one name."""
    if not 1 <= len(name) <= LONGEST_NAME:
        return False
    return is_letter(name[0]) and run_end(name, 0, is_name_part) == len(name)


def number_value(digits):
    value = 0
    for digit in digits:
        value = value * 10 + digit - ZERO
    return value


def token_at(text, start):
    """The kind and value of the token at start, and the position behind it."""
    byte = text[start]
    if byte in SYMBOLS:
        return SYMBOLS[byte], None, start + 1
    if is_letter(byte):
        end = run_end(text, start, is_name_part)
        if end - start <= LONGEST_NAME:
            return "name", text[start:end], end
    if is_digit(byte):
        end = run_end(text, start, is_digit)
        if end - start <= LONGEST_NUMBER:
            return "number", number_value(text[start:end]), end
    raise FormulaFailure(NO_TOKEN, start)


def read_tokens(text):
    """All tokens as (kind, value, position), with one of the kind "end" behind them.

    The kind of a symbol is the symbol itself.
    """
    tokens = []
    position = 0
    while position < len(text):
        if text[position] == SPACE:
            position += 1
        else:
            kind, value, end = token_at(text, position)
            tokens.append((kind, value, position))
            position = end
    # A text that ends too early fails at its length: there the end stands as a token.
    tokens.append(("end", None, len(text)))
    return tokens
