"""A text, which is a list of bytes, parted into tokens."""

from bestwishes.faults import Fault, NO_TOKEN

LINE_END = 10
BLANKS = (32, 9, 10)
REMARK = 35
SIGNS = {44: ",", 58: ":", 59: ";", 45: "-"}
WORDS = ("measures", "up", "down", "item")

# The kinds of token that are neither a word nor a sign; words and signs are their own kinds.
NAME = "name"
NUMBER = "number"
END = "end"

LONGEST_NAME = 16
GREATEST_NUMBER = 1000000000


class Token:
    """A token from a place up to the one behind it; value is a name's bytes or a number."""

    def __init__(self, kind, place, behind, value):
        self.kind = kind
        self.place = place
        self.behind = behind
        self.value = value


def split_tokens(text):
    """All tokens of a text, its end as the last one; a Fault where none begins."""
    tokens = []
    place = skip_blanks(text, 0)
    while place < len(text):
        token = token_at(text, place)
        tokens.append(token)
        place = skip_blanks(text, token.behind)
    tokens.append(Token(END, len(text), len(text), 0))
    return tokens


def skip_blanks(text, place):
    """The first place from this one on where neither a blank nor a remark is."""
    while place < len(text):
        if text[place] == REMARK:
            place = line_end(text, place)
        elif text[place] in BLANKS:
            place += 1
        else:
            break
    return place


def line_end(text, place):
    while place < len(text) and text[place] != LINE_END:
        place += 1
    return place


def token_at(text, place):
    byte = text[place]
    if is_letter(byte):
        return name_at(text, place)
    if is_digit(byte):
        return number_at(text, place)
    if byte in SIGNS:
        return Token(SIGNS[byte], place, place + 1, 0)
    raise Fault(NO_TOKEN, place)


def name_at(text, place):
    """The name or the word that begins at a place."""
    behind = place
    while behind < len(text) and (is_letter(text[behind]) or is_digit(text[behind])):
        behind += 1
    if behind - place > LONGEST_NAME:
        raise Fault(NO_TOKEN, place)
    name = text[place:behind]
    return Token(kind_of_name(name), place, behind, name)


def kind_of_name(name):
    for word in WORDS:
        if name == [ord(letter) for letter in word]:
            return word
    return NAME


def number_at(text, place):
    behind = place
    value = 0
    while behind < len(text) and is_digit(text[behind]):
        value = value * 10 + text[behind] - 48
        behind += 1
    needless_zero = text[place] == 48 and behind - place > 1
    if needless_zero or value > GREATEST_NUMBER:
        raise Fault(NO_TOKEN, place)
    return Token(NUMBER, place, behind, value)


def is_letter(byte):
    return 65 <= byte <= 90 or 97 <= byte <= 122


def is_digit(byte):
    return 48 <= byte <= 57
