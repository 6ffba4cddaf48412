"""Where the next piece of a text ends, as soon as all its bytes are there."""

from evenformdesk.signs import (
    AMPERSAND, BRACKET, CR, DOUBLE_QUOTE, EXCLAMATION, GREATER, HYPHEN, LESS, LF, QUESTION, SEMICOLON, SINGLE_QUOTE,
    Fault, codes,
)

BYTE = "byte"
REFERENCE = "reference"
COMMENT = "comment"
SECTION_BEGIN = "section's begin"
SECTION_END = "section's end"
INSTRUCTION = "instruction"
TAG = "tag"

MARK_MOST = 4096
REFERENCE_MOST = 10


class Piece:
    def __init__(self, kind, end):
        self.kind = kind
        self.end = end


# None stands for bytes that are lacking, here and in all that follows.
def find_piece(data, at, in_section):
    if at == len(data):
        return None
    byte = data[at]
    if byte == CR:
        return find_line_end(data, at)
    if in_section:
        return find_in_section(data, at)
    if byte == LESS:
        return find_mark(data, at)
    if byte == AMPERSAND:
        return find_reference(data, at)
    return Piece(BYTE, at + 1)


def find_line_end(data, at):
    if at + 1 == len(data):
        return None
    if data[at + 1] == LF:
        return Piece(BYTE, at + 2)
    return Piece(BYTE, at + 1)


def find_in_section(data, at):
    if data[at] != BRACKET:
        return Piece(BYTE, at + 1)
    closing = codes("]]>")
    ahead = data[at:at + len(closing)]
    if ahead == closing:
        return Piece(SECTION_END, at + len(closing))
    if ahead == closing[:len(ahead)]:
        return None
    return Piece(BYTE, at + 1)


def find_reference(data, at):
    limit = at + 1 + REFERENCE_MOST
    for place in range(at + 1, min(len(data), limit + 1)):
        if data[place] == SEMICOLON:
            return Piece(REFERENCE, place + 1)
    if len(data) > limit:
        raise Fault()
    return None


def find_mark(data, at):
    kind = mark_kind(data, at)
    if kind is None:
        return None
    limit = at + MARK_MOST
    end = mark_end(kind, data, at, min(len(data), limit))
    if end is not None:
        return Piece(kind, end)
    if len(data) > limit:
        raise Fault()
    return None


def mark_kind(data, at):
    if at + 1 == len(data):
        return None
    if data[at + 1] == QUESTION:
        return INSTRUCTION
    if data[at + 1] != EXCLAMATION:
        return TAG
    if at + 2 == len(data):
        return None
    if data[at + 2] == HYPHEN:
        return COMMENT if is_begun(data, at, "<!--") else None
    return SECTION_BEGIN if is_begun(data, at, "<![CDATA[") else None


def is_begun(data, at, word):
    for offset, code in enumerate(codes(word)):
        if at + offset == len(data):
            return False
        if data[at + offset] != code:
            raise Fault()
    return True


def mark_end(kind, data, at, limit):
    if kind == SECTION_BEGIN:
        return at + len("<![CDATA[")
    if kind == COMMENT:
        return comment_end(data, at + len("<!--"), limit)
    if kind == INSTRUCTION:
        return instruction_end(data, at + len("<?"), limit)
    return tag_end(data, at + len("<"), limit)


def comment_end(data, start, limit):
    for place in range(start + 2, limit):
        if data[place - 2] == HYPHEN and data[place - 1] == HYPHEN:
            if data[place] != GREATER:
                raise Fault()
            return place + 1
    return None


def instruction_end(data, start, limit):
    for place in range(start + 1, limit):
        if data[place - 1] == QUESTION and data[place] == GREATER:
            return place + 1
    return None


def tag_end(data, start, limit):
    quote = None
    for place in range(start, limit):
        byte = data[place]
        if byte == LESS:
            raise Fault()
        if quote is not None:
            if byte == quote:
                quote = None
        elif byte == GREATER:
            return place + 1
        elif byte in (DOUBLE_QUOTE, SINGLE_QUOTE):
            quote = byte
    return None
