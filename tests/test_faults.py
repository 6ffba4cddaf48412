"""Each fault, at the byte with which it is met; and promise 4, the calls after a fault."""

import unittest

from tests.helper import CLEAR, DONE, ask, ask_new, check_fault, made_whole, take

NOT_ALLOWED = [byte for byte in range(32) if byte not in (9, 10, 13)]


class Bytes(unittest.TestCase):
    def test_not_allowed_outside_marks(self):
        for byte in NOT_ALLOWED:
            sign = bytes([byte])
            check_fault(self, sign, 0, b"")
            check_fault(self, b"<a>x" + sign, 4, b"<a>x")
            check_fault(self, b"<a><![CDATA[x" + sign, 13, b"<a>x")
            check_fault(self, b"<a/>" + sign, 4, b"<a></a>")

    def test_all_others_are_allowed_in_text(self):
        for byte in [9, 10] + [byte for byte in range(32, 256) if byte not in b"<>&"]:
            sign = bytes([byte])
            self.assertEqual(made_whole(self, b"<a>" + sign + b"</a>"), b"<a>" + sign + b"</a>")

    def test_not_allowed_within_a_mark_with_its_last_byte(self):
        for byte in NOT_ALLOWED:
            sign = bytes([byte])
            check_fault(self, b"<!--" + sign + b"-->", 0, b"")
            check_fault(self, b"<?p " + sign + b" ?>", 0, b"")
            check_fault(self, b"<a b='" + sign + b"'>", 0, b"")
            check_fault(self, b"<" + sign + b" x>", 0, b"")

    def test_not_allowed_within_a_reference_with_its_last_byte(self):
        check_fault(self, b"<a>&\x01\x02;", 3, b"<a>")

    def test_only_blanks_before_and_behind_the_element(self):
        for sign in (b"x", b">", b"]", b"\x80", b"\xef", b"\x7f", b";", b"-"):
            check_fault(self, b" " + sign, 1, b"")
            check_fault(self, b"<a/>\n" + sign, 5, b"<a></a>")

    def test_a_fault_behind_a_bracket_or_a_line_end(self):
        check_fault(self, b"<a><![CDATA[]\x01", 13, b"<a>]")
        check_fault(self, b"<a><![CDATA[]]\x01", 14, b"<a>]]")
        check_fault(self, b"<a>\r\x01", 4, b"<a>\n")
        check_fault(self, b"<a>\r\n\x01", 5, b"<a>\n")


class Marks(unittest.TestCase):
    def test_less_within_a_tag(self):
        for data in (b"<<", b"<a<", b"<a b='<", b"<a b=\"x<", b"</<", b"<a <", b"< <", b"<a b='\"'<"):
            check_fault(self, data, 0, b"")

    def test_behind_exclamation_mark(self):
        for data in (b"<!x", b"<!>", b"<!\r", b"<!<", b"<!\x01", b"<!-x", b"<!->", b"<!-\n", b"<!D", b"<!c"):
            check_fault(self, data, 0, b"")
        begin = b"<![CDATA["
        for size in range(3, len(begin)):
            for sign in (b"x", b"[" if begin[size:size + 1] != b"[" else b"]", b">", b"\r", b"\x01"):
                check_fault(self, b"<a>" + begin[:size] + sign, 3, b"<a>")
        check_fault(self, b"<a><![c", 3, b"<a>")

    def test_behind_the_second_hyphens_of_a_comment(self):
        for data in (b"<!----x", b"<!-----", b"<!--x---", b"<!-- -- ", b"<!-->--\r", b"<!--->--\x01", b"<!--x--<"):
            check_fault(self, data, 0, b"")

    def test_wrong_start_tags(self):
        wrong = [
            b"<>", b"< a>", b"<1>", b"<-a>", b"<.a>", b"<a$>", b"<a/ >", b"<a / >", b"<a//>", b"<//>", b"</>", b"<a/b>",
            b"<a b>", b"<a b=>", b"<a b=1>", b"<a =''>", b"<a b='1'c='2'>", b"<ab='1'>", b"<a b=''''>", b"<a ''>",
            b"<a'>'>", b"<a 1='2'>", b"<a b='1' b='2'>", b"<a b='1' c='' b=\"1\"/>", b"<a b=='1'>", b"<a b ' '>",
            b"<a b='1'/ >", b"<a b|'1'>", b"<a b=x1x>", b"<a b= x x>", b"<a b='1\"' c=\">'>\" d>", b"<a b=/>", b"<a b='1'=''>", b"<a\x0b>", b"<a b=\"1' c='2\"\">\">",
        ]
        for data in wrong:
            check_fault(self, data, 0, b"")

    def test_wrong_values(self):
        wrong = [b"&", b"&;", b"&amp", b"& amp;", b"&Amp;", b"&x;", b"&#;", b"&#x;", b"&#1;", b"&#xD800;", b"&#X41;",
                 b"&#0000000065;", b"&abcdefghijklmnop;", b"&amp;&", b"&&amp;", b"&#65"]
        for value in wrong:
            check_fault(self, b"<a b='" + value + b"'>", 0, b"")
            check_fault(self, b"<a b=\"" + value + b"\" c=';'/>", 0, b"")

    def test_wrong_end_tags(self):
        for data in (b"</b>", b"</ a>", b"</a/>", b"</a b='1'>", b"</aa>", b"</A>", b"</a\x01>", b"</a '>'>", b"</a a>"):
            check_fault(self, b"<a>" + data, 3, b"<a>")
        check_fault(self, b"</a>", 0, b"")
        check_fault(self, b"<a></a></a>", 7, b"<a></a>")
        check_fault(self, b"<a/></a>", 4, b"<a></a>")
        check_fault(self, b"<a><b></a>", 6, b"<a><b>")

    def test_one_element(self):
        check_fault(self, b"<a/><a/>", 4, b"<a></a>")
        check_fault(self, b"<a></a><b>", 7, b"<a></a>")

    def test_sections_stand_in_the_element(self):
        check_fault(self, b"<![CDATA[", 0, b"")
        check_fault(self, b"<a/><![CDATA[", 4, b"<a></a>")

    def test_wrong_instructions(self):
        for data in (b"<??>", b"<? p?>", b"<?1?>", b"<?p$?>", b"<?p?x?>", b"<?>?>", b"<?p<?>", b"<?-?>", b"<?\r?>"):
            check_fault(self, data, 0, b"")
            check_fault(self, b"<a>" + data, 3, b"<a>")

    def test_names_that_are_xml(self):
        for name in (b"xml", b"XML", b"Xml", b"xMl", b"xmL", b"XmL"):
            for rest in (b"", b" ", b" x", b" version='1.0'"):
                data = b"<?" + name + rest + b"?>"
                check_fault(self, b" " + data, 1, b"")
                check_fault(self, b"<a>" + data, 3, b"<a>")
                check_fault(self, b"<a/>" + data, 4, b"<a></a>")
                if name != b"xml" or rest != b" version='1.0'":
                    check_fault(self, data, 0, b"")

    def test_wrong_declarations(self):
        wrong = [
            b"", b" ", b" version", b" version=", b" version='1.1'", b" version='1.0\"", b" version=1.0", b" Version='1.0'",
            b" version='1.0' version='1.0'", b" encoding='u'", b" encoding='u' version='1.0'",
            b" standalone='yes' version='1.0'", b" version='1.0'encoding='u'", b" version='1.0' encoding=''",
            b" version='1.0' encoding='8'", b" version='1.0' encoding='a:b'", b" version='1.0' encoding=':'",
            b" version='1.0' encoding='a b'", b" version='1.0' encoding='u'standalone='no'", b" version='1.0' encoding",
            b" version='1.0' standalone='Yes'", b" version='1.0' standalone=''", b" version='1.0' standalone='maybe'",
            b" version='1.0' standalone='no' encoding='u'", b" version='1.0' encoding='u' encoding='u'",
            b" version='1.0' standalone='no' standalone='no'", b" version='1.0' x='y'", b" version='1.0' x",
            b" version='&#49;.0'", b" version=' 1.0'", b" version='1.0' ?", b" version='1.0", b" version='1.0'\x01",
        ]
        for rest in wrong:
            check_fault(self, b"<?xml" + rest + b"?>", 0, b"")
        check_fault(self, b"<?xmlversion='1.0'?>", 0, b"")


class Content(unittest.TestCase):
    def test_a_section_end_in_text(self):
        check_fault(self, b"<a>]]>", 5, b"<a>]]")
        check_fault(self, b"<a>]]]>", 6, b"<a>]]]")
        check_fault(self, b"<a>x<![CDATA[y]]>]]>", 19, b"<a>xy]]")

    def test_across_calls(self):
        told = ask_new(take(b"<a>]"), take(b"]"), take(b""), take(b">"))
        self.assertEqual(told[2:], [(0, 0, b""), (-1, 0, b"")])

    def test_something_between(self):
        good = {
            b"]>": b"]&gt;", b"]]x>": b"]]x&gt;", b"]]&gt;": b"]]&gt;", b"]]\r>": b"]]\n&gt;", b"]]<!---->>": b"]]&gt;",
            b"]&#93;>": b"]]&gt;", b"&#93;&#93;>": b"]]&gt;", b"]]<![CDATA[]]>>": b"]]&gt;",
            b"]<!---->]>": b"]]&gt;", b"<![CDATA[]]]]>>": b"]]&gt;", b"]<![CDATA[]]]>>": b"]]&gt;",
            b"]]<?p?>>": b"]]<?p?>&gt;", b"]]<b/>>": b"]]<b></b>&gt;", b"]<![CDATA[]]>]>": b"]]&gt;",
            b"]]&#32;>": b"]] &gt;", b"<b>]]</b>>": b"<b>]]</b>&gt;",
        }
        for data, made in good.items():
            self.assertEqual(made_whole(self, b"<a>" + data + b"</a>"), b"<a>" + made + b"</a>")

    def test_wrong_references(self):
        wrong = [
            b"&;", b"&x;", b"&Amp;", b"&AMP;", b"&amp ;", b"& amp;", b"&nbsp;", b"&#;", b"&#x;", b"&#X41;", b"&#4a;",
            b"&#xg;", b"&#-1;", b"&#+9;", b"&# 9;", b"&#0;", b"&#8;", b"&#11;", b"&#12;", b"&#14;", b"&#31;", b"&#x1F;",
            b"&#xD800;", b"&#xDFFF;", b"&#xFFFE;", b"&#xFFFF;", b"&#x110000;", b"&#1114112;", b"&#999999999;",
            b"&#55296;", b"&#57343;", b"&#65534;", b"&#65535;", b"&#xFFFFFFFF;", b"&<b>;", b"&&;", b"&\r\n;", b"&x41;",
            b"&#x_1;", b"&#4A;", b"&#1_0;", b"&#\xb2;",
        ]
        for data in wrong:
            check_fault(self, b"<a>x" + data, 4, b"<a>x")

    def test_references_stand_in_the_element(self):
        check_fault(self, b"&amp;", 0, b"")
        check_fault(self, b"&#32;", 0, b"")
        check_fault(self, b"<a/> &lt;", 5, b"<a></a>")
        check_fault(self, b"&abcdefghijk", 0, b"")


class After(unittest.TestCase):
    def test_nothing_is_used_or_made(self):
        for data in (b"x", b"<a>\x01", b"<a b='<", b"</a>", b"<a/><", b"<a>&x;"):
            bad = data + b"<"
            told = ask_new(take(bad), take(b"<a/>"), take(b"", 0), take(b">", 0), take(b"</a>"), DONE, take(b" "))
            self.assertEqual(told[0][0], -1)
            self.assertEqual(told[1:], [(-1, 0, b"")] * 4 + [0] + [(-1, 0, b"")])

    def test_a_fault_behind_the_element(self):
        told = ask_new(take(b"<a/>"), DONE, take(b"x"), DONE, take(b" "), DONE)
        self.assertEqual(told, [(0, 4, b"<a></a>"), 1, (-1, 0, b""), 0, (-1, 0, b""), 0])

    def test_bytes_of_earlier_calls_are_not_counted(self):
        told = ask_new(take(b"<a>x<b"), take(b" c='' c=''>"))
        self.assertEqual(told, [(0, 6, b"<a>x"), (-1, 0, b"")])
        told = ask_new(take(b"<a"), take(b">xy<b>z</a>"))
        self.assertEqual(told[1], (-1, 7, b"<a>xy<b>z"))

    def test_clear_begins_anew(self):
        told = ask(CLEAR, take(b"x"), CLEAR, take(b"<a/>"), DONE)
        self.assertEqual(told, [0, (-1, 0, b""), 0, (0, 4, b"<a></a>"), 1])


if __name__ == "__main__":
    unittest.main()
