"""The tokens of a schema's text: words, numbers and signs, each with its place."""

from tablerulesdesk.schema import VALUE_MOST

WORD_LENGTH = 12
NUMBER_LENGTH = 7
BLANKS = "\t\n "
SIGNS = "-:;{}"
DIGITS = "0123456789"
WORD_SIGNS = "abcdefghijklmnopqrstuvwxyz0123456789_"


class Token:
    """A piece of a text, with the place where it begins.

    kind is "word", "number" or "sign"; "misshapen" for a word or number that isn't as told;
    "stray" for a byte that begins no token; "end" for the text's end.
    """

    def __init__(self, kind, text, place):
        self.kind = kind
        self.text = text
        self.place = place


def text_of(numbers):
    """Give the bytes as a text with one sign for each, so that places stay the same."""
    # The byte 13 parts tokens as a blank does; a byte of no meaning becomes a "?", which has none.
    signs = {13: " "}
    for sign in BLANKS + SIGNS + WORD_SIGNS + "#":
        signs[ord(sign)] = sign
    return "".join([signs.get(number, "?") for number in numbers])


def tokens_of(text):
    """Give the text's tokens, from left to right, and behind them one for its end."""
    tokens = []
    place = next_place(text, 0)
    while place < len(text):
        token = token_at(text, place)
        tokens.append(token)
        place = next_place(text, place + len(token.text))
    tokens.append(Token("end", "", place))
    return tokens


def next_place(text, start):
    """Give the first place from start on that's in no blank and no remark, or the text's length."""
    place = start
    while place < len(text) and text[place] in BLANKS + "#":
        if text[place] == "#":
            place = remark_end(text, place)
        else:
            place += 1
    return place


def remark_end(text, start):
    """Give the place behind the remark that begins at start."""
    place = text.find("\n", start)
    if place < 0:
        return len(text)
    return place


def token_at(text, place):
    """Give the token that begins at a place where no blank and no remark is."""
    sign = text[place]
    if sign.islower():
        word = run_at(text, place, WORD_SIGNS)
        return Token("word" if len(word) <= WORD_LENGTH else "misshapen", word, place)
    if sign.isdigit():
        digits = run_at(text, place, DIGITS)
        return Token("number" if is_number(digits) else "misshapen", digits, place)
    return Token("sign" if sign in SIGNS else "stray", sign, place)


def run_at(text, start, signs):
    """Give the longest piece of the text from start on that's of these signs alone."""
    stop = start
    while stop < len(text) and text[stop] in signs:
        stop += 1
    return text[start:stop]


def is_number(digits):
    """Tell whether the digits are a number as a text may hold it."""
    if len(digits) > NUMBER_LENGTH:
        return False
    if digits[0] == "0":
        return len(digits) == 1
    return int(digits) <= VALUE_MOST
