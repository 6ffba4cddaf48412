"""One text: what has come of it, how far it is worked on, and what it goes out as."""

from evenformdesk.form import end_form, instruction_form, start_form, text_form
from evenformdesk.marks import (
    EMPTY, END, START, check_declaration, is_declaration, is_kept_name, read_instruction, read_tag,
)
from evenformdesk.pieces import BYTE, INSTRUCTION, REFERENCE, SECTION_BEGIN, SECTION_END, TAG, find_piece
from evenformdesk.references import referred_bytes
from evenformdesk.signs import BRACKET, CR, GREATER, Fault, check_allowed, is_blank, join_line_ends

ELEMENTS_MOST = 256
NAMES_MOST = 16384


# What a whole piece would make and change. It is worked out first and done later, as there may be no room for it.
class Step:
    def __init__(self, kind, made, name):
        self.kind = kind
        self.made = made
        self.name = name
        self.end = 0


class Text:
    def __init__(self):
        self.held = []
        self.faulty = False
        self.at_begin = True
        self.has_ended = False
        self.in_section = False
        self.brackets = 0
        self.names = []
        self.names_size = 0

    def take(self, most, given):
        if self.faulty:
            return [-1, 0]
        earlier = len(self.held)
        data = self.held + given
        made = []
        at = 0
        try:
            step = self.next_step(data, at)
            while step is not None and len(made) + len(step.made) <= most:
                made.extend(step.made)
                self.do_step(step)
                at = step.end
                step = self.next_step(data, at)
        except Fault:
            self.faulty = True
            return [-1, max(0, at - earlier)] + made
        if step is None:
            self.held = data[at:]
            return [0, len(given)] + made
        # Bytes of this call that were not worked on are not kept: the next call may bring others in their place.
        self.held = data[at:earlier]
        return [0, max(0, at - earlier)] + made

    def is_whole(self):
        return self.has_ended and not self.faulty and (not self.held or self.held == [CR])

    def next_step(self, data, at):
        piece = find_piece(data, at, self.in_section)
        if piece is None:
            return None
        row = join_line_ends(data[at:piece.end])
        check_allowed(row)
        step = self.step_of(piece.kind, row)
        step.end = piece.end
        return step

    def step_of(self, kind, row):
        if kind == TAG:
            return self.tag_step(read_tag(row))
        if kind == BYTE:
            return Step(kind, self.made_of_byte(row[0]), [])
        if kind == INSTRUCTION:
            return Step(kind, self.made_of_instruction(row), [])
        if kind in (REFERENCE, SECTION_BEGIN) and not self.names:
            raise Fault()
        if kind == REFERENCE:
            return Step(kind, text_form(referred_bytes(row[1:-1])), [])
        return Step(kind, [], [])

    def made_of_byte(self, byte):
        if not self.names:
            if not is_blank(byte):
                raise Fault()
            return []
        if byte == GREATER and self.brackets >= 2:
            raise Fault()
        return text_form([byte])

    def made_of_instruction(self, row):
        if self.at_begin and is_declaration(row):
            check_declaration(row)
            return []
        instruction = read_instruction(row)
        if is_kept_name(instruction.name):
            raise Fault()
        return instruction_form(instruction.name, instruction.rest)

    def tag_step(self, tag):
        if tag.kind == END:
            if not self.names or self.names[-1] != tag.name:
                raise Fault()
            return Step(END, end_form(tag.name), tag.name)
        if self.has_ended:
            raise Fault()
        made = start_form(tag.name, tag.attributes)
        if tag.kind == EMPTY:
            return Step(EMPTY, made + end_form(tag.name), tag.name)
        if len(self.names) == ELEMENTS_MOST or self.names_size + len(tag.name) > NAMES_MOST:
            raise Fault()
        return Step(START, made, tag.name)

    def do_step(self, step):
        self.at_begin = False
        self.brackets = self.brackets_behind(step)
        if step.kind == SECTION_BEGIN:
            self.in_section = True
        elif step.kind == SECTION_END:
            self.in_section = False
        elif step.kind == START:
            self.names.append(step.name)
            self.names_size += len(step.name)
        elif step.kind == END:
            self.names.pop()
            self.names_size -= len(step.name)
        if step.kind in (EMPTY, END) and not self.names:
            self.has_ended = True

    # Only bytes that stand side by side count: a reference to ] or a mark between them breaks the row.
    # In a section none counts: a ] worked on there may stand ahead of a > that is no part of the section's end.
    def brackets_behind(self, step):
        if self.in_section or step.kind != BYTE or step.made != [BRACKET]:
            return 0
        return self.brackets + 1
