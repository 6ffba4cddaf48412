"""] and > in sections and outside, where bytes that were not used need not come again."""

import random
import re
import unittest

from tests.helper import CLEAR, DONE, MOST, ask, ask_new, check_fault, made_whole, take

BEGIN = b"<a><![CDATA["
TEXT_FORM = {b">": b"&gt;", b"<": b"&lt;", b"&": b"&amp;"}
MARK_FORM = {b"<!---->": b"", b"<?p?>": b"<?p?>", b"<b/>": b"<b></b>", b"<b>": b"<b>", b"</b>": b"</b>",
             b"<![CDATA[": b"", b"&#93;": b"]"}
WORDS = [b"]", b"]", b"]", b">", b">", b"x", b"]]>", b"<!---->", b"<?p?>", b"<b/>", b"<![CDATA[", b"<![CDATA[", b"&#93;"]


class WithinSections(unittest.TestCase):
    def check(self, rows, *wanted):
        told = ask_new(take(BEGIN), *rows, take(b"]]></a>"), DONE)
        self.assertEqual(told[1:], [*wanted, (0, 7, b"</a>"), 1])

    def test_the_bytes_that_come_then_are_what_counts(self):
        self.check([take(b"]]a", 1), take(b"]>")], (0, 1, b"]"), (0, 2, b"]&gt;"))
        self.check([take(b"]]]x", 2), take(b">")], (0, 2, b"]]"), (0, 1, b"&gt;"))
        self.check([take(b"]]]]]x", 4), take(b">>")], (0, 4, b"]]]]"), (0, 2, b"&gt;&gt;"))

    def test_brackets_of_an_earlier_call_that_were_held(self):
        self.check([take(b"]]"), take(b"x", 1), take(b">")], (0, 2, b""), (0, 0, b"]"), (0, 1, b"]&gt;"))
        self.check([take(b"]]"), take(b"x", 2), take(b">")], (0, 2, b""), (0, 0, b"]]"), (0, 1, b"&gt;"))
        self.check([take(b"]"), take(b"]x", 1), take(b"]>")], (0, 1, b""), (0, 0, b"]"), (0, 2, b"]&gt;"))

    def test_a_held_bracket_may_still_begin_the_end(self):
        told = ask_new(take(BEGIN), take(b"]]"), take(b"x", 1), take(b"]>"), take(b"></a>"), DONE)
        self.assertEqual(told[1:], [(0, 2, b""), (0, 0, b"]"), (0, 2, b""), (0, 5, b"&gt;</a>"), 1])

    def test_room_for_it(self):
        for most in (0, 3):
            self.check([take(b"]]]x", 2), take(b">", most), take(b">", 4)], (0, 2, b"]]"), (0, 0, b""), (0, 1, b"&gt;"))

    def test_brackets_ahead_of_the_section(self):
        told = ask_new(take(b"<a>]]"), take(b"<![CDATA[>]]></a>"), DONE)
        self.assertEqual(told, [(0, 5, b"<a>]]"), (0, 17, b"&gt;</a>"), 1])
        told = ask_new(take(b"<a>]<![CDATA["), take(b"]]x", 1), take(b">]]></a>"), DONE)
        self.assertEqual(told[1:], [(0, 1, b"]"), (0, 8, b"&gt;</a>"), 1])

    def test_brackets_of_the_section_behind_it(self):
        for inner in (b"]", b"]]", b"]]]", b"x]]"):
            self.assertEqual(made_whole(self, BEGIN + inner + b"]]>></a>"), b"<a>" + inner + b"&gt;</a>")
            self.assertEqual(made_whole(self, BEGIN + inner + b"]]>]></a>"), b"<a>" + inner + b"]&gt;</a>")
            check_fault(self, BEGIN + inner + b"]]>]]>", len(BEGIN + inner) + 5, b"<a>" + inner + b"]]")
        told = ask_new(take(BEGIN), take(b"]]]x", 2), take(b"]]>"), take(b"></a>"), DONE)
        self.assertEqual(told[1:], [(0, 2, b"]]"), (0, 3, b""), (0, 5, b"&gt;</a>"), 1])

    def test_a_byte_that_is_not_allowed_stays_a_fault(self):
        told = ask_new(take(BEGIN), take(b"]]]x", 2), take(b"\x01"), take(b">"), DONE)
        self.assertEqual(told[1:], [(0, 2, b"]]"), (-1, 0, b""), (-1, 0, b""), 0])


class OutsideSections(unittest.TestCase):
    def test_a_fault_across_calls(self):
        told = ask_new(take(b"<a>"), take(b"]]x", 2), take(b">"), DONE)
        self.assertEqual(told[1:], [(0, 2, b"]]"), (-1, 0, b""), 0])
        told = ask_new(take(b"<a>"), take(b"]]", 1), take(b"]x", 1), take(b"", 0), take(b">", 0), DONE)
        self.assertEqual(told[1:], [(0, 1, b"]"), (0, 1, b"]"), (0, 0, b""), (-1, 0, b""), 0])

    def test_a_bracket_that_was_not_used_is_not_there(self):
        told = ask_new(take(b"<a>"), take(b"]]", 1), take(b"></a>"), DONE)
        self.assertEqual(told[1:], [(0, 1, b"]"), (0, 5, b"&gt;</a>"), 1])

    def test_what_was_not_used_is_not_between(self):
        for word in (b"x", b"&#93;", b"<?p?>", b"<b/>", b"\n"):
            told = ask_new(take(b"<a>"), take(b"]]" + word, 2), take(b">"))
            self.assertEqual(told[1:], [(0, 2, b"]]"), (-1, 0, b"")], word)

    def test_every_piece_breaks_the_row(self):
        for word in (b"x", b" ", b"\r", b"&#93;", b"&lt;", b"<!---->", b"<?p?>", b"<b/>", b"<b></b>", b"<![CDATA[]]>",
                     b"<![CDATA[]]]>", b"<![CDATA[]]]]>"):
            for data in (b"]]" + word + b">", b"]" + word + b">", b"]" + word + b"]>"):
                told = ask_new(take(b"<a>" + data + b"</a>"), DONE)
                self.assertEqual((told[0][:2], told[1]), ((0, len(data) + 7), 1), data)
            check_fault(self, b"<a>" + word + b"]]>", len(word) + 5, self.made_of(word) + b"]]")

    def made_of(self, word):
        return ask_new(take(b"<a>" + word), take(b"]"))[0][2] + (b"\n" if word == b"\r" else b"")

    def test_tags_break_the_row(self):
        self.assertEqual(made_whole(self, b"<a>]]<b>></b>]]</a>"), b"<a>]]<b>&gt;</b>]]</a>")
        self.assertEqual(made_whole(self, b"<a><b>]]</b>>]<b/>]></a>"), b"<a><b>]]</b>&gt;]<b></b>]&gt;</a>")


class Model:
    """Content out of whole words, as the document tells it: every piece that was worked on is kept, and looked back at."""

    def __init__(self):
        self.held = b""
        self.section = False
        self.faulty = False
        self.behind = []

    def piece_of(self, rest):
        if not self.section:
            found = re.match(rb"<!\[CDATA\[|<[^>]*>|&[^;]*;|.", rest)
            return found and found.group()
        if rest in (b"", b"]", b"]]"):
            return None
        return b"]]>" if rest.startswith(b"]]>") else rest[:1]

    def made_of(self, piece):
        if self.section:
            return b"" if piece == b"]]>" else TEXT_FORM.get(piece, piece)
        return MARK_FORM.get(piece, TEXT_FORM.get(piece, piece))

    def work_on(self, piece):
        self.behind.append((self.section, piece))
        if not self.section and piece == b"<![CDATA[":
            self.section = True
        elif piece == b"]]>":
            self.section = False

    def take(self, data, most):
        if self.faulty:
            return (-1, 0, b"")
        given = self.held + data
        at = 0
        made = b""
        while True:
            piece = self.piece_of(given[at:])
            if piece is None:
                self.held = given[at:]
                return (0, len(data), made)
            used = max(0, at - len(self.held))
            if not self.section and piece == b">" and self.behind[-2:] == [(False, b"]")] * 2:
                self.faulty = True
                return (-1, used, made)
            if len(made + self.made_of(piece)) > most:
                self.held = self.held[at:]
                return (0, used, made)
            made += self.made_of(piece)
            self.work_on(piece)
            at += len(piece)


class AgainstTheModel(unittest.TestCase):
    def test_bytes_that_were_not_used_give_way_to_others(self):
        chance = random.Random(93)
        met = {0: 0, -1: 0}
        for _ in range(4000):
            rows = [(b"".join(chance.choices(WORDS, k=chance.randrange(5))), chance.choice((0, 1, 2, 3, 4, 6, MOST)))
                    for _ in range(chance.randrange(1, 12))]
            model = Model()
            wanted = [model.take(*row) for row in rows]
            self.assertEqual(ask(CLEAR, take(b"<a>"), *[take(*row) for row in rows])[2:], wanted, rows)
            met[wanted[-1][0]] += 1
        self.assertGreater(min(met.values()), 500)


if __name__ == "__main__":
    unittest.main()
