"""The text, a list of bytes, is parted into tokens here.

A token is a pair: its kind, and its number or text.
"""

from handover.refusals import NoProgram

NUMBER = "number"
NAME = "name"
FIXED = "fixed"
END = "end"

KEPT_WORDS = ("proc", "int", "chan", "skip", "stop", "if", "else", "while", "par", "alt", "run", "print")
SIGNS = (
    "==", "!=", "<=", ">=", "&&", "||", "(", ")", "{", "}", ",", ";", ":",
    "=", "<", ">", "+", "-", "*", "/", "!", "?", "&",
)
NAME_LETTERS = "abcdefghijklmnopqrstuvwxyzABCDEFGHIJKLMNOPQRSTUVWXYZ0123456789_"

BLANK = 32
TAB = 9
NEWLINE = 10
HASH = 35
PERCENT = 37
DIGIT_ZERO = 48
DIGIT_NINE = 57
MOST_DIGITS = 10
FIRST_NUMBER_TOO_LARGE = 2147483648


def read_tokens(text):
    letters = letter_table()
    signs = sign_table()
    tokens = []
    place = skip_blanks(text, 0)
    while place < len(text):
        end = token_end(text, place, letters, signs)
        tokens.append(token_of(text[place:end], letters, signs))
        place = skip_blanks(text, end)
    tokens.append((END, ""))
    return tokens


def letter_table():
    table = {}
    for letter in NAME_LETTERS:
        table[ord(letter)] = letter
    return table


# No text of this package may hold the percent sign itself, so its token goes by
# the words "remainder of"; the blank keeps them apart from every kept word.
def sign_table():
    table = {(PERCENT,): "remainder of"}
    for sign in SIGNS:
        table[tuple([ord(part) for part in sign])] = sign
    return table


def skip_blanks(text, place):
    in_remark = False
    while place < len(text):
        code = text[place]
        if code == HASH:
            in_remark = True
        elif code == NEWLINE:
            in_remark = False
        elif not in_remark and code != BLANK and code != TAB:
            return place
        place += 1
    return place


def token_end(text, place, letters, signs):
    if is_digit(text[place]):
        return digits_end(text, place)
    if text[place] in letters:
        return letters_end(text, place, letters)
    # The longest sign that fits is the one that stands there.
    for end in (place + 2, place + 1):
        if end <= len(text) and tuple(text[place:end]) in signs:
            return end
    raise NoProgram()


def is_digit(code):
    return DIGIT_ZERO <= code <= DIGIT_NINE


def digits_end(text, place):
    while place < len(text) and is_digit(text[place]):
        place += 1
    return place


def letters_end(text, place, letters):
    while place < len(text) and text[place] in letters:
        place += 1
    return place


def token_of(codes, letters, signs):
    if is_digit(codes[0]):
        return (NUMBER, number_of(codes))
    if codes[0] not in letters:
        return (FIXED, signs[tuple(codes)])
    word = "".join([letters[code] for code in codes])
    if word in KEPT_WORDS:
        return (FIXED, word)
    return (NAME, word)


def number_of(digits):
    if len(digits) > MOST_DIGITS:
        raise NoProgram()
    number = 0
    for digit in digits:
        number = number * 10 + digit - DIGIT_ZERO
    if number >= FIRST_NUMBER_TOO_LARGE:
        raise NoProgram()
    return number
