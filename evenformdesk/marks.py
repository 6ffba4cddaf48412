"""What tags, instructions and the XML declaration say.

A row is a whole mark, from < to >, with its line ends joined and its bytes allowed.
"""

from evenformdesk.pieces import REFERENCE_MOST
from evenformdesk.references import referred_bytes
from evenformdesk.signs import (
    AMPERSAND, COLON, DOUBLE_QUOTE, EQUALS, SEMICOLON, SINGLE_QUOTE, SLASH, SPACE,
    Fault, after_blanks, after_name, codes, is_blank,
)

START = "start tag"
EMPTY = "empty tag"
END = "end tag"


class Tag:
    def __init__(self, kind, name, attributes):
        self.kind = kind
        self.name = name
        self.attributes = attributes


class Instruction:
    def __init__(self, name, rest):
        self.name = name
        self.rest = rest


class Pair:
    def __init__(self, name, quoted, end):
        self.name = name
        self.quoted = quoted
        self.end = end


def read_tag(row):
    if row[1] == SLASH:
        return read_end_tag(row)
    kind = START
    end = len(row) - 1
    if row[end - 1] == SLASH:
        kind = EMPTY
        end -= 1
    name_end = after_name(row, 1, end)
    return Tag(kind, row[1:name_end], read_attributes(row, name_end, end))


def read_end_tag(row):
    end = len(row) - 1
    name_end = after_name(row, 2, end)
    if after_blanks(row, name_end, end) != end:
        raise Fault()
    return Tag(END, row[2:name_end], {})


def read_attributes(row, at, end):
    attributes = {}
    for pair in read_pairs(row, at, end):
        name = tuple(pair.name)
        if name in attributes:
            raise Fault()
        attributes[name] = read_value(pair.quoted)
    return attributes


def read_pairs(row, at, end):
    pairs = []
    start = after_blanks(row, at, end)
    while start != end:
        if start == at:
            raise Fault()
        pair = read_pair(row, start, end)
        pairs.append(pair)
        at = pair.end
        start = after_blanks(row, at, end)
    return pairs


def read_pair(row, at, end):
    name_end = after_name(row, at, end)
    equals = after_blanks(row, name_end, end)
    if equals == end or row[equals] != EQUALS:
        raise Fault()
    begin = after_blanks(row, equals + 1, end)
    if begin == end or row[begin] not in (DOUBLE_QUOTE, SINGLE_QUOTE):
        raise Fault()
    for place in range(begin + 1, end):
        if row[place] == row[begin]:
            return Pair(row[at:name_end], row[begin + 1:place], place + 1)
    raise Fault()


def read_value(quoted):
    said = []
    at = 0
    while at < len(quoted):
        if quoted[at] == AMPERSAND:
            end = value_reference_end(quoted, at)
            said.extend(referred_bytes(quoted[at + 1:end]))
            at = end
        else:
            said.append(SPACE if is_blank(quoted[at]) else quoted[at])
        at += 1
    return said


def value_reference_end(quoted, at):
    for place in range(at + 1, min(len(quoted), at + 2 + REFERENCE_MOST)):
        if quoted[place] == SEMICOLON:
            return place
    raise Fault()


def read_instruction(row):
    end = len(row) - 2
    name_end = after_name(row, 2, end)
    if name_end != end and not is_blank(row[name_end]):
        raise Fault()
    return Instruction(row[2:name_end], row[after_blanks(row, name_end, end):end])


def is_declaration(row):
    return row[:5] == codes("<?xml") and is_blank(row[5])


def check_declaration(row):
    pairs = read_pairs(row, len("<?xml"), len(row) - 2)
    if not pairs or not says(pairs[0], "version", ("1.0",)):
        raise Fault()
    at = 1
    if at < len(pairs) and says_encoding(pairs[at]):
        at += 1
    if at < len(pairs) and says(pairs[at], "standalone", ("yes", "no")):
        at += 1
    if at != len(pairs):
        raise Fault()


def says(pair, name, words):
    return pair.name == codes(name) and pair.quoted in [codes(word) for word in words]


def says_encoding(pair):
    if pair.name != codes("encoding") or COLON in pair.quoted:
        return False
    return after_name(pair.quoted, 0, len(pair.quoted)) == len(pair.quoted)


# The name is kept for the declaration in whatever letters it is written.
def is_kept_name(name):
    return len(name) == 3 and name[0] in codes("xX") and name[1] in codes("mM") and name[2] in codes("lL")
