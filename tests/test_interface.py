import contextlib
import io
import unittest

from evenformdesk import desk
from evenformdesk.desk import answers
from tests.helper import CLEAR, DONE, take

TEXT = b"<?xml version='1.0'?>\r\n<a b='1'>x &amp; y</a>"


class Interface(unittest.TestCase):
    def test_numbers_of_each_call(self):
        self.assertEqual(answers([1]), [1, 0])
        self.assertEqual(answers([1, 3]), [1, 0, 1, 0])
        self.assertEqual(answers([1, 2, 0, 0]), [1, 0, 2, 0, 0])
        calls = [1, 2, 7, 4, 60, 97, 47, 62, 3]
        self.assertEqual(answers(calls), [1, 0, 9, 0, 4, 60, 97, 62, 60, 47, 97, 62, 1, 1])

    def test_a_fault_still_tells_three_things(self):
        calls = [1, 2, 6000, 4, 60, 97, 62, 1, 2, 6000, 1, 32]
        self.assertEqual(answers(calls), [1, 0, 5, -1, 3, 60, 97, 62, 2, -1, 0])

    def test_bytes_are_not_taken_for_calls(self):
        data = b"<a>\x01\x02\x03"
        self.assertEqual(answers(CLEAR + take(data) + DONE), [1, 0, 5, -1, 3, 60, 97, 62, 1, 0])

    def test_kinds(self):
        given_back = answers(CLEAR + take(TEXT) + DONE)
        self.assertIs(type(given_back), list)
        for number in given_back:
            self.assertIs(type(number), int)

    def test_what_is_handed_in_is_as_it_was(self):
        calls = CLEAR + take(TEXT[:30], 3) + take(TEXT[:30]) + take(TEXT[30:]) + DONE + take(b"x") + CLEAR
        before = list(calls)
        answers(calls)
        self.assertEqual(calls, before)

    def test_it_is_only_read(self):
        class Read(list):
            def refuse(self, *_):
                raise AssertionError("changed")
            append = extend = insert = pop = remove = clear = reverse = sort = refuse
            __setitem__ = __delitem__ = __iadd__ = __imul__ = refuse
        calls = CLEAR + take(TEXT, 3) + take(TEXT) + DONE
        self.assertEqual(answers(Read(calls)), answers(calls))

    def test_nothing_is_kept(self):
        calls = CLEAR + take(TEXT) + DONE
        first = answers(calls)
        answers(CLEAR + take(b"<a><b>x<![CDATA[]") + DONE)
        answers(CLEAR + take(b"x"))
        again = answers(calls)
        self.assertEqual(first, again)
        first.append(5)
        self.assertEqual(answers(calls), again)

    def test_nothing_is_printed(self):
        out = io.StringIO()
        with contextlib.redirect_stdout(out), contextlib.redirect_stderr(out):
            answers(CLEAR + take(TEXT) + DONE)
        self.assertEqual(out.getvalue(), "")

    def test_as_many_calls_and_numbers_as_may_come(self):
        calls = list(CLEAR)
        for _ in range(158):
            calls += take(b"<a>")
        self.assertEqual(answers(calls + DONE), [1, 0] + [5, 0, 3, 60, 97, 62] * 158 + [1, 0])
        data = b"<!---->" * 8000
        self.assertEqual(answers(CLEAR + take(data, 0)), [1, 0, 2, 0, len(data)])
        self.assertEqual(answers(CLEAR + take(b" " * 59000, 0)), [1, 0, 2, 0, 59000])

    def test_the_name(self):
        self.assertEqual(desk.answers.__code__.co_varnames[:desk.answers.__code__.co_argcount], ("calls",))


if __name__ == "__main__":
    unittest.main()
