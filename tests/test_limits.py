"""The limits, on either side of each."""

import unittest

from tests.helper import CLEAR, DONE, ask, ask_new, check_fault, made_whole, take


class Marks(unittest.TestCase):
    def check_mark(self, begin, fill, end, made):
        room = 4096 - len(begin) - len(end)
        longest = begin + fill * room + end
        self.assertEqual(len(longest), 4096)
        told = ask_new(take(b"<a>"), take(longest), take(b"x"))
        self.assertEqual(told[1:], [(0, 4096, made), (0, 1, b"x")])
        check_fault(self, b"<a>" + begin + fill * (room + 1) + end, 3, b"<a>")
        check_fault(self, b"<a>" + begin + fill * (4097 - len(begin)), 3, b"<a>")

    def test_comment(self):
        self.check_mark(b"<!--", b"x", b"-->", b"")

    def test_instruction(self):
        self.check_mark(b"<?", b"p", b"?>", b"<?" + b"p" * 4092 + b"?>")
        self.check_mark(b"<?p", b" ", b"?>", b"<?p?>")

    def test_start_tag(self):
        self.check_mark(b"<", b"b", b">", b"<" + b"b" * 4094 + b">")
        self.check_mark(b"<b", b" ", b">", b"<b>")
        self.check_mark(b"<b c='", b">", b"'>", b"<b c=\"" + b">" * 4088 + b"\">")

    def test_end_tag(self):
        data = b"</a" + b" " * 4092 + b">"
        self.assertEqual(made_whole(self, b"<a>" + data), b"<a></a>")
        check_fault(self, b"<a></a" + b" " * 4093 + b">", 3, b"<a>")

    def test_empty_tag(self):
        self.check_mark(b"<b", b"\t", b"/>", b"<b></b>")

    def test_declaration(self):
        data = b"<?xml version='1.0'" + b" " * 4075 + b"?>"
        self.assertEqual(len(data), 4096)
        self.assertEqual(made_whole(self, data + b"<a/>"), b"<a></a>")
        check_fault(self, data[:-2] + b" ?>", 0, b"")

    def test_the_bytes_of_a_mark_come_one_behind_another(self):
        mark = b"<!--" + b"x" * 4089 + b"-->"
        cuts = [mark[at:at + 60] for at in range(0, len(mark), 60)]
        told = ask_new(*[take(cut) for cut in cuts])
        self.assertEqual(told, [(0, len(cut), b"") for cut in cuts])
        told = ask_new(take(mark[:4093]), take(b"x"), take(b"x"), take(b"x"), take(b"x"), take(b"x"))
        self.assertEqual([answer[0] for answer in told], [0, 0, 0, 0, -1, -1])

    def test_both_bytes_of_a_line_end_count(self):
        self.assertEqual(made_whole(self, b"<!--" + b"\r\n" * 2044 + b"x--><a/>"), b"<a></a>")
        check_fault(self, b"<!--" + b"\r\n" * 2045 + b"-->", 0, b"")

    def test_a_section_may_be_longer(self):
        data = b"<a><![CDATA[" + b"x" * 5000 + b"]]></a>"
        self.assertEqual(made_whole(self, data), b"<a>" + b"x" * 5000 + b"</a>")


class References(unittest.TestCase):
    def test_ten_bytes_between(self):
        self.assertEqual(made_whole(self, b"<a>&#000000065;&#x00000042;</a>"), b"<a>AB</a>")
        self.assertEqual(made_whole(self, b"<a b='&#000000065;&#x00000042;'/>"), b"<a b=\"AB\"></a>")

    def test_eleven_bytes_between(self):
        check_fault(self, b"<a>&#0000000065", 3, b"<a>")
        self.assertEqual(ask_new(take(b"<a>&#0000000065;")), [(-1, 3, b"<a>")])
        check_fault(self, b"<a>&#x000000042", 3, b"<a>")
        check_fault(self, b"<a>&" + b"\r" * 11, 3, b"<a>")
        check_fault(self, b"<a>&<b>\x01&&&&&&&", 3, b"<a>")

    def test_ten_wrong_bytes_wait_for_the_eleventh(self):
        check_fault(self, b"<a>&" + b"x" * 10 + b";", 3, b"<a>")
        check_fault(self, b"<a>&" + b"x" * 11, 3, b"<a>")
        told = ask_new(take(b"<a>&" + b"x" * 9), take(b"x"), take(b""), take(b"x"))
        self.assertEqual(told[1:], [(0, 1, b""), (0, 0, b""), (-1, 0, b"")])

    def test_in_a_value_with_the_last_byte_of_the_tag(self):
        check_fault(self, b"<a b='&#0000000065;'>", 0, b"")
        check_fault(self, b"<a b='&" + b"x" * 500 + b"'>", 0, b"")


class Elements(unittest.TestCase):
    def test_256_are_open(self):
        told = ask_new(take(b"<a>" * 256), take(b"<b/>x"), take(b"<a>"), take(b"<b/>"))
        self.assertEqual(told, [(0, 768, b"<a>" * 256), (0, 5, b"<b></b>x"), (-1, 0, b""), (-1, 0, b"")])
        check_fault(self, b"<a>" * 257, 768, b"<a>" * 256)

    def test_one_that_has_ended_makes_place(self):
        told = ask_new(take(b"<a>" * 256 + b"</a><a>" * 3), take(b"</a>" * 256), DONE)
        self.assertEqual([told[0][:2], told[1][:2], told[2]], [(0, 789), (0, 1024), 1])

    def test_more_than_256_one_behind_another(self):
        told = ask_new(take(b"<a>" + b"<b></b>" * 400 + b"</a>"), DONE)
        self.assertEqual([told[0][:2], told[1]], [(0, 2807), 1])

    def names_of(self, *sizes):
        calls = [take(b"<" + b"n" * size + b">") for size in sizes]
        return [answer[0] for answer in ask_new(*calls)]

    def test_16384_bytes_of_names(self):
        self.assertEqual(self.names_of(4094, 4094, 4094, 4094, 8), [0, 0, 0, 0, 0])
        self.assertEqual(self.names_of(4094, 4094, 4094, 4094, 9), [0, 0, 0, 0, -1])
        self.assertEqual(self.names_of(4094, 4094, 4094, 4094, 7, 1), [0, 0, 0, 0, 0, 0])
        self.assertEqual(self.names_of(4094, 4094, 4094, 4094, 7, 2), [0, 0, 0, 0, 0, -1])
        self.assertEqual(self.names_of(4094, 4094, 4094, 4094, 8, 1), [0, 0, 0, 0, 0, -1])

    def test_an_empty_tag_never_is_too_much(self):
        calls = [CLEAR] + [take(b"<" + b"n" * 4094 + b">")] * 4 + [take(b"<" + b"n" * 8 + b">")]
        told = ask(*calls, take(b"<" + b"m" * 2900 + b"/>"), take(b"<m>"))
        self.assertEqual(told[6], (0, 2903, b"<" + b"m" * 2900 + b"></" + b"m" * 2900 + b">"))
        self.assertEqual(told[7], (-1, 0, b""))

    def test_names_that_have_ended_are_not_counted(self):
        name = b"n" * 4000
        calls = [take(b"<" + name + b">")] * 4 + [take(b"</" + name + b">"), take(b"<" + name + b">")]
        told = ask_new(*calls, take(b"<" + b"n" * 384 + b">"), take(b"<n>"))
        self.assertEqual([answer[0] for answer in told], [0] * 7 + [-1])

    def test_attributes_are_not_counted(self):
        told = ask_new(*[take(b"<a " + b"b" * 4000 + b"=''>")] * 10)
        self.assertEqual({answer[0] for answer in told}, {0})


if __name__ == "__main__":
    unittest.main()
