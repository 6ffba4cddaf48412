"""Promises 1 and 5: xm_clear and xm_done."""

import unittest

from tests.helper import CLEAR, DONE, ask, ask_new, take


class Done(unittest.TestCase):
    def check(self, data, wanted):
        self.assertEqual(ask_new(take(data), DONE, DONE)[1:], [wanted, wanted], data)

    def test_nothing_yet(self):
        self.assertEqual(ask(CLEAR, DONE), [0, 0])
        for data in (b"", b" ", b"\r", b"<!---->", b"<?p?>", b"<?xml version='1.0'?>", b"<!--", b"<"):
            self.check(data, 0)

    def test_within_an_element(self):
        for data in (b"<a>", b"<a>x", b"<a><b></b>", b"<a><b/>", b"<a>&", b"<a>\r", b"<a><![CDATA[", b"<a><![CDATA[]]",
                     b"<a><![CDATA[]]>", b"<a></a", b"<a", b"<a/"):
            self.check(data, 0)

    def test_the_element_has_ended(self):
        for data in (b"<a/>", b"<a></a>", b"<a><b></b></a>", b" <a/> ", b"<a/>\n", b"<a/>\r", b"<a/>\r\n", b"<a/><!---->",
                     b"<a/><?p?>", b"<a/><?p?>\r"):
            self.check(data, 1)

    def test_a_piece_begun_behind_it(self):
        for data in (b"<a/><", b"<a/><!", b"<a/><!--", b"<a/><!-- -", b"<a/><!-- --", b"<a/><?p", b"<a/><?p?", b"<a/>&",
                     b"<a/>\r<", b"<a/><b", b"<a/><?p \r", b"<a/></", b"<a/><![CDATA"):
            self.check(data, 0)

    def test_a_fault(self):
        for data in (b"x", b"<a>\x01", b"<a/>x", b"<a/>&x;", b"<a/><b>", b"<a/></a>", b"<a/>\rx", b"<a/><!x"):
            self.check(data, 0)

    def test_byte_by_byte(self):
        data = b"<a><b/></a>\r\n<!--x--> \r"
        calls = []
        for at in range(len(data)):
            calls += [take(data[at:at + 1]), DONE]
        wanted = [0] * 10 + [1] * 3 + [0] * 7 + [1] * 3
        self.assertEqual(ask_new(*calls)[1::2], wanted)

    def test_bytes_that_were_not_used_are_not_begun(self):
        told = ask_new(take(b"<a/><?p?>", 7), DONE, take(b"<?p?", 7), DONE, take(b">", 4), DONE, take(b">", 5), DONE)
        self.assertEqual(told, [(0, 4, b"<a></a>"), 1, (0, 4, b""), 0, (0, 0, b""), 0, (0, 1, b"<?p?>"), 1])
        self.assertEqual(ask_new(take(b"<a></a>", 3), DONE), [(0, 3, b"<a>"), 0])

    def test_it_changes_nothing(self):
        told = ask_new(take(b"<a"), DONE, take(b">&am"), DONE, take(b"p;</a>\r"), DONE, take(b"\n"), DONE)
        self.assertEqual(told, [(0, 2, b""), 0, (0, 4, b"<a>"), 0, (0, 7, b"&amp;</a>"), 1, (0, 1, b""), 1])


class Clear(unittest.TestCase):
    def test_again_in_the_middle_of_a_text(self):
        for data in (b"", b" ", b"<", b"<a", b"<a>", b"<a>]]", b"<a>&am", b"<a>\r", b"<a><![CDATA[", b"<a><![CDATA[]]", b"<a/>",
                     b"<a/>\r", b"x", b"<!-", b"<a>" * 256):
            first = b"<?xml version='1.0'?><b c='1'>\n></b>"
            told = ask(CLEAR, take(data), CLEAR, DONE, take(first), DONE)
            self.assertEqual(told[2:], [0, 0, (0, len(first), b"<b c=\"1\">\n&gt;</b>"), 1], data)

    def test_what_was_open_is_gone(self):
        self.assertEqual(ask(CLEAR, take(b"<a>"), CLEAR, take(b"</a>"))[3], (-1, 0, b""))
        self.assertEqual(ask(CLEAR, take(b"<a/>"), DONE, CLEAR, DONE)[2:], [1, 0, 0])
        names = [take(b"<" + b"n" * 4000 + b">")] * 4
        told = ask(CLEAR, *names, CLEAR, *names)
        self.assertEqual({answer[0] for answer in told[6:]}, {0})

    def test_twice(self):
        self.assertEqual(ask(CLEAR, CLEAR, CLEAR), [0, 0, 0])


if __name__ == "__main__":
    unittest.main()
