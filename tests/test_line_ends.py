"""CR, CR LF and LF, at every place of a text."""

import unittest

from tests.helper import DONE, ask_new, made_whole, take

TEXTS = [
    b"@<!--@-@-->@<?p@x@y@?>@<a@b@=@'@x@@'@>@x@@y@<![CDATA[@]@]]@]]>@<b@/>@</a@>@",
    b"<?xml@version@=@'1.0'@@encoding='u'@standalone='no'@?>@@<a>@</a>@",
]


class LineEnds(unittest.TestCase):
    def test_all_three_say_the_same(self):
        for data in TEXTS:
            wanted = made_whole(self, data.replace(b"@", b"\n"))
            self.assertEqual(made_whole(self, data.replace(b"@", b"\r")), wanted)
            self.assertEqual(made_whole(self, data.replace(b"@", b"\r\n")), wanted)

    def test_one_place_at_a_time_and_every_cut(self):
        for data in TEXTS:
            wanted = made_whole(self, data.replace(b"@", b"\n"))
            for place in [at for at in range(len(data)) if data[at:at + 1] == b"@"]:
                for end in (b"\r", b"\r\n"):
                    head, tail = data[:place].replace(b"@", b"\n"), data[place + 1:].replace(b"@", b"\n")
                    # A CR ahead of an LF would be one line's end with it, and so another text.
                    if end == b"\r\n" or not tail.startswith(b"\n"):
                        self.check_cuts(head + end + tail, wanted)

    def check_cuts(self, data, wanted):
        for cut in range(len(data)):
            first, second, done = ask_new(take(data[:cut]), take(data[cut:]), DONE)
            self.assertEqual((first[2] + second[2], done), (wanted, 1), (data, cut))

    def test_what_they_are_in_the_one_form(self):
        self.assertEqual(made_whole(self, b"<a>\r\r\n\n\r</a>"), b"<a>\n\n\n\n</a>")
        self.assertEqual(made_whole(self, b"<a><![CDATA[\r\r\n\n\r]]></a>"), b"<a>\n\n\n\n</a>")
        self.assertEqual(made_whole(self, b"<a b='\r\r\n\n\r'/>"), b"<a b=\"    \"></a>")
        self.assertEqual(made_whole(self, b"<?p\r\n\rx\r\r\n\n?><a/>"), b"<?p x\n\n\n?><a></a>")
        self.assertEqual(made_whole(self, b"<a>&#13;\n&#13;&#10;</a>"), b"<a>&#13;\n&#13;\n</a>")

    def test_a_cr_waits_for_the_next_byte(self):
        told = ask_new(take(b"<a>\r"), take(b""), take(b"\n"), take(b"\r"), take(b"\r"), take(b"x"))
        self.assertEqual(told, [(0, 4, b"<a>"), (0, 0, b""), (0, 1, b"\n"), (0, 1, b""), (0, 1, b"\n"), (0, 1, b"\nx")])
        told = ask_new(take(b"<a><![CDATA[\r"), take(b"\n"), take(b"]\r"), take(b"]]>"))
        self.assertEqual(told, [(0, 13, b"<a>"), (0, 1, b"\n"), (0, 2, b"]"), (0, 3, b"\n")])

    def test_a_cut_within_cr_lf_and_no_room(self):
        told = ask_new(take(b"<a>\r"), take(b"\n", 0), take(b"\nx", 1), take(b"x", 1))
        self.assertEqual(told[1:], [(0, 0, b""), (0, 1, b"\n"), (0, 1, b"x")])

    def test_both_bytes_are_of_the_piece(self):
        self.assertEqual(ask_new(take(b"<a>\r\nx", 4))[0], (0, 5, b"<a>\n"))
        self.assertEqual(ask_new(take(b"<a>\r\nx", 3))[0], (0, 3, b"<a>"))
        self.assertEqual(ask_new(take(b"<a>\rx", 4))[0], (0, 4, b"<a>\n"))

    def test_a_cr_as_the_last_byte(self):
        self.assertEqual(ask_new(take(b"<a/>\r"), DONE), [(0, 5, b"<a></a>"), 1])
        self.assertEqual(ask_new(take(b"<a/>\r\r"), DONE), [(0, 6, b"<a></a>"), 1])
        self.assertEqual(ask_new(take(b"<a/>\r"), DONE, take(b"\n"), DONE, take(b"x"), DONE)[1:],
                         [1, (0, 1, b""), 1, (-1, 0, b""), 0])
        self.assertEqual(ask_new(take(b"<a>\r"), DONE)[1], 0)
        self.assertEqual(ask_new(take(b"\r"), DONE)[1], 0)

    def test_a_declaration_behind_a_cr_is_not_first(self):
        data = b"\r<?xml version='1.0'?>"
        self.assertEqual(ask_new(take(data)), [(-1, 1, b"")])


if __name__ == "__main__":
    unittest.main()
