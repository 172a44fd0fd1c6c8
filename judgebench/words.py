"""The lines of a case's text, and the words that they are made of."""

LETTERS = "abcdefghijklmnopqrstuvwxyz"
NAME_SIGNS = "abcdefghijklmnopqrstuvwxyz0123456789-"
TEXT_SIGNS = "abcdefghijklmnopqrstuvwxyz0123456789-~:,=> \n"
# No line has this sign, so a line with a byte that is out of place stays wrong.
STRANGE_SIGN = "?"
LONGEST_NAME = 15
LONGEST_BODY = 6
LAW = "law"
WEIGH = "weigh"
ARROWS = {"law": "->", "rule": "=>"}


def text_of(numbers):
    """The bytes as a text, sign for byte."""
    signs = {}
    for sign in TEXT_SIGNS:
        signs[ord(sign)] = sign
    return "".join([signs.get(number, STRANGE_SIGN) for number in numbers])


def is_name(word):
    if word == "" or len(word) > LONGEST_NAME or word[0] not in LETTERS:
        return False
    return all([sign in NAME_SIGNS for sign in word])


def is_opposite(literal):
    return literal.startswith("~")


def atom_of(literal):
    return literal[1:] if is_opposite(literal) else literal


def is_literal(word):
    return is_name(atom_of(word))


def read_line(line):
    """(law or rule, name, body, head), or (weigh, name, name); None: it is not such a line."""
    # Splitting at each blank turns a blank too many into an empty word, which nothing below takes.
    words = line.split(" ")
    if words[0] == WEIGH:
        return read_weight(words)
    if words[0] in ARROWS:
        return read_clause(words)
    return None


def read_weight(words):
    if len(words) != 4 or words[2] != ">":
        return None
    if not is_name(words[1]) or not is_name(words[3]):
        return None
    return (WEIGH, words[1], words[3])


def read_clause(words):
    if len(words) < 4 or words[-2] != ARROWS[words[0]] or not words[1].endswith(":"):
        return None
    name = words[1][:-1]
    body = read_body(words[2:-2])
    head = words[-1]
    if not is_name(name) or body is None or not is_literal(head):
        return None
    return (words[0], name, body, head)


def read_body(words):
    """The literals as a tuple; None: the words are no body."""
    if len(words) > LONGEST_BODY:
        return None
    body = []
    for place, word in enumerate(words):
        literal = word
        if place < len(words) - 1:
            if not word.endswith(","):
                return None
            literal = word[:-1]
        if not is_literal(literal):
            return None
        body.append(literal)
    return tuple(body)
