"""The bytes of a text: what they are called, and which of them are allowed, are blanks or make a name."""

TAB = 9
LF = 10
CR = 13
SPACE = 32
EXCLAMATION = 33
DOUBLE_QUOTE = 34
AMPERSAND = 38
SINGLE_QUOTE = 39
HYPHEN = 45
DOT = 46
SLASH = 47
COLON = 58
SEMICOLON = 59
LESS = 60
EQUALS = 61
GREATER = 62
QUESTION = 63
BRACKET = 93
UNDERSCORE = 95


# A text that breaks the rules; nothing of it is worked on from there on.
class Fault(Exception):
    pass


def codes(word):
    return [ord(sign) for sign in word]


def is_allowed(byte):
    return byte >= SPACE or byte in (TAB, LF, CR)


def is_blank(byte):
    return byte in (SPACE, TAB, LF)


def is_digit(byte):
    return 48 <= byte <= 57


def begins_name(byte):
    return byte >= 128 or 65 <= byte <= 90 or 97 <= byte <= 122 or byte in (UNDERSCORE, COLON)


def continues_name(byte):
    return begins_name(byte) or is_digit(byte) or byte in (HYPHEN, DOT)


def check_allowed(row):
    for byte in row:
        if not is_allowed(byte):
            raise Fault()


def after_blanks(row, at, end):
    while at < end and is_blank(row[at]):
        at += 1
    return at


def after_name(row, at, end):
    if at == end or not begins_name(row[at]):
        raise Fault()
    while at < end and continues_name(row[at]):
        at += 1
    return at


def join_line_ends(row):
    joined = []
    before = LF
    for byte in row:
        if byte == CR:
            joined.append(LF)
        elif byte != LF or before != CR:
            joined.append(byte)
        before = byte
    return joined
