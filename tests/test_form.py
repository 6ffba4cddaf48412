"""What each piece makes: the one form."""

import unittest

from tests.helper import made_whole, whole


def text_of(number):
    return {60: b"&lt;", 62: b"&gt;"}.get(number, bytes([number]))


class Form(unittest.TestCase):
    def check(self, data, made):
        with self.subTest(data=data):
            self.assertEqual(made_whole(self, data), made)

    def check_content(self, data, made):
        self.check(b"<a>" + data + b"</a>", b"<a>" + made + b"</a>")

    def check_value(self, data, made):
        self.check(b"<a b=" + data + b"/>", b"<a b=" + made + b"></a>")


class Outside(Form):
    def test_declarations(self):
        for rest in (
            b" version='1.0'", b" version=\"1.0\"", b"\t\r\n version \n=\r\t'1.0'", b" version='1.0' ",
            b" version='1.0' encoding='UTF-8'", b" version='1.0'\nencoding = \"_x-1.2\"\r\n", b" version='1.0' encoding='\xe9'",
            b" version='1.0' standalone='yes'", b" version='1.0' standalone=\"no\"",
            b" version=\"1.0\"  encoding='a'\t\tstandalone\t=\t'no'\t\t",
        ):
            self.check(b"<?xml" + rest + b"?><a/>", b"<a></a>")

    def test_blanks(self):
        self.check(b" \t\r\n\r\n<a> </a> \t\r\n\r", b"<a> </a>")

    def test_comments_and_instructions(self):
        self.check(b"<!--x--><?p?> <a/> <?q?><!--y-->", b"<?p?><a></a><?q?>")

    def test_a_declaration_is_no_instruction_of_another_name(self):
        self.check(b"<?xml-style x?><a/>", b"<?xml-style x?><a></a>")
        self.check(b"<?xml:x?><a/>", b"<?xml:x?><a></a>")
        self.check(b"<?xm l?><?xmll?><a/>", b"<?xm l?><?xmll?><a></a>")
        self.check(b"<?aml?><?xal?><?xma?><a/>", b"<?aml?><?xal?><?xma?><a></a>")
        self.check(b"<?xml version='1.0'?><?xml2 y?><a/>", b"<?xml2 y?><a></a>")


class Comments(Form):
    def test_what_they_hold(self):
        for data in (b"", b" ", b"-x", b"->", b">", b"x-y", b"- - ", b"<a b='", b"&", b"]]>", b"\xff", b"<?", b"<![CDATA[",
                     b"\r\n", b"?>", b"- "):
            self.check_content(b"x<!--" + data + b"-->y", b"xy")


class Instructions(Form):
    def test_what_they_make(self):
        for data, made in (
            (b"p", b"p"), (b"p ", b"p"), (b"p \t\r\n", b"p"), (b"p x", b"p x"), (b"p\tx", b"p x"), (b"p \n\r\n\t x", b"p x"),
            (b"p x ", b"p x "), (b"p  a  b\t", b"p a  b\t"), (b"p ?", b"p ?"), (b"p ??", b"p ??"), (b"p >", b"p >"),
            (b"p <a b='&\">", b"p <a b='&\">"), (b"p ? >", b"p ? >"), (b"_-.:9\x80 \xff", b"_-.:9\x80 \xff"), (b"p --", b"p --"),
        ):
            self.check_content(b"x<?" + data + b"?>y", b"x<?" + made + b"?>y")
            self.check(b"<?" + data + b"?><a/><?" + data + b"?>", b"<?" + made + b"?><a></a><?" + made + b"?>")


class Tags(Form):
    def test_blanks_wherever_they_may_stand(self):
        for blank in (b" ", b"\t", b"\n", b"\r", b"\r\n", b" \t \n"):
            self.check(b"<a_c='1'_d_=_\"2\"_></a_>".replace(b"_", blank), b"<a c=\"1\" d=\"2\"></a>")
            self.check(b"<a_/>".replace(b"_", blank), b"<a></a>")
            self.check(b"<a_b='1'_/>".replace(b"_", blank), b"<a b=\"1\"></a>")

    def test_names(self):
        for name in (b"a", b"Z", b"_", b":", b"\x80", b"\xff", b"a-", b"a.", b"a9", b"a:b", b"_\xc3\xa9-1.z:"):
            self.check(b"<" + name + b" " + name + b"=''></" + name + b">",
                       b"<" + name + b" " + name + b"=\"\"></" + name + b">")

    def test_every_byte_in_a_name(self):
        letters = b"abcdefghijklmnopqrstuvwxyzABCDEFGHIJKLMNOPQRSTUVWXYZ_:" + bytes(range(128, 256))
        for byte in range(256):
            sign = bytes([byte])
            if sign in letters:
                self.check(b"<" + sign + b"/>", b"<" + sign + b"></" + sign + b">")
                self.check(b"<?" + sign + b"?><a/>", b"<?" + sign + b"?><a></a>")
            elif sign not in b"!?/":
                self.assertEqual(whole(b"<" + sign + b" x='' y=\"\">")[1], 0, sign)
            if sign in letters + b"0123456789-.":
                self.check(b"<a" + sign + b"/>", b"<a" + sign + b"></a" + sign + b">")
            elif sign not in b" \t\r\n/":
                self.assertEqual(whole(b"<a" + sign + b"/>")[1], 0, sign)

    def test_empty_ones(self):
        self.check(b"<a><b/><b c='d'/></a>", b"<a><b></b><b c=\"d\"></b></a>")
        self.check(b"<a b=''/>", b"<a b=\"\"></a>")

    def test_attributes_in_the_order_of_names(self):
        self.check(b"<e b='1' a='2'/>", b"<e a=\"2\" b=\"1\"></e>")
        names = [b"\xff", b"b", b"ab", b"a", b"Z", b"a:", b"a.", b"a-", b"a1", b"_", b":", b"\x80", b"aB", b"a\x80"]
        self.check(b"<e " + b" ".join(name + b"='v'" for name in names) + b"/>",
                   b"<e " + b" ".join(name + b"=\"v\"" for name in sorted(names)) + b"></e>")
        self.assertEqual(sorted(names)[:6], [b":", b"Z", b"_", b"a", b"a-", b"a."])

    def test_names_that_are_alike(self):
        self.check(b"<e aa='2' a='1' A='3'/>", b"<e A=\"3\" a=\"1\" aa=\"2\"></e>")

    def test_values(self):
        for data, made in (
            (b"'x'", b"\"x\""), (b"\"'\"", b"\"'\""), (b"'\"'", b"\"&quot;\""), (b"'>'", b"\">\""), (b"'/>'", b"\"/>\""),
            (b"'a\tb\nc\r\nd\re  f'", b"\"a b c d e  f\""), (b"'\xe9\x7f'", b"\"\xe9\x7f\""), (b"']]>'", b"\"]]>\""),
            (b"'&amp;&lt;&gt;&quot;&apos;'", b"\"&amp;&lt;>&quot;'\""), (b"'&#9;&#10;&#13;&#32;'", b"\"&#9;&#10;&#13; \""),
            (b"'&#xA;&#xd;&#x9;'", b"\"&#10;&#13;&#9;\""), (b"'&#38;&#60;&#62;&#34;&#39;'", b"\"&amp;&lt;>&quot;'\""),
            (b"'&amp;amp;'", b"\"&amp;amp;\""), (b"'&#x20ac;'", b"\"\xe2\x82\xac\""), (b"'a=b'", b"\"a=b\""),
            (b"';&amp;;'", b"\";&amp;;\""),
        ):
            self.check_value(data, made)


class Content(Form):
    def test_bytes(self):
        self.check_content(b"x > \" ' ; = / ? ! [ ] \t\n\xff", b"x &gt; \" ' ; = / ? ! [ ] \t\n\xff")

    def test_references(self):
        self.check_content(b"&amp;&lt;&gt;&quot;&apos;", b"&amp;&lt;&gt;\"'")
        self.check_content(b"&#38;&#60;&#62;&#34;&#39;", b"&amp;&lt;&gt;\"'")
        self.check_content(b"&#9;&#10;&#13;&#32;", b"\t\n&#13; ")
        self.check_content(b"&#xd;&#xD;&#x0D;&#013;", b"&#13;&#13;&#13;&#13;")
        self.check_content(b"&#x4a;&#x4A;&#74;&#0074;", b"JJJJ")

    def test_references_are_read_once(self):
        self.check_content(b"&amp;lt;&#38;lt;", b"&amp;lt;&amp;lt;")

    def test_the_ends_of_what_a_number_may_be(self):
        for number in (9, 10, 32, 33, 0x7F, 0x80, 0x7FF, 0x800, 0xD7FF, 0xE000, 0xFFFD, 0x10000, 0x10FFFF, 0x5A5, 0xA5A5, 0xA5A5A):
            made = chr(number).encode("utf-8")
            self.check_content(f"&#{number};".encode(), made)
            self.check_content(f"&#x{number:x};".encode(), made)
            self.check_content(f"&#x{number:X};".encode(), made)

    def test_digits(self):
        for byte in range(256):
            sign = bytes([byte])
            if sign in b"0123456789abcdefABCDEF":
                self.check_content(b"&#x4" + sign + b";", bytes([64 + int(sign, 16)]))
            elif sign != b";":
                self.assertEqual(whole(b"<a>&#x4" + sign + b";")[0], (-1, 3, b"<a>"), sign)
            if sign in b"0123456789":
                self.check_content(b"&#6" + sign + b";", text_of(60 + int(sign)))
            elif sign != b";":
                self.assertEqual(whole(b"<a>&#6" + sign + b";")[0], (-1, 3, b"<a>"), sign)

    def test_sections(self):
        for data, made in (
            (b"", b""), (b"x", b"x"), (b"<b>&amp;", b"&lt;b&gt;&amp;amp;"), (b"]", b"]"), (b"]]", b"]]"), (b"]]]", b"]]]"),
            (b"]>", b"]&gt;"), (b"] ]>", b"] ]&gt;"), (b"<![CDATA[", b"&lt;![CDATA["), (b"<!--", b"&lt;!--"),
            (b">", b"&gt;"), (b"]x]]x]", b"]x]]x]"), (b"]\r]", b"]\n]"), (b"\"'", b"\"'"),
        ):
            self.check_content(b"1<![CDATA[" + data + b"]]>2", b"1" + made + b"2")

    def test_texts_that_say_the_same(self):
        wanted = b"<a b=\"&lt;\">&lt;x&gt;</a>"
        for data in (b"<a b='&lt;'>&lt;x></a>", b"<a\nb = \"&#60;\" ><![CDATA[<x>]]></a>", b" <a b='&#x3C;'><!---->&#60;x&gt;</a >\n",
                     b"<?xml version='1.0'?><a b='&lt;'><![CDATA[<]]>x<![CDATA[>]]></a>"):
            self.check(data, wanted)

    def test_the_one_form_stays_as_it_is(self):
        data = b"<?p x ?><a b=\"&amp;&lt;&quot;&#9;&#10;&#13;'>\" c=\"\">\n&amp;&lt;&gt;&#13;<b></b></a>"
        self.check(data, data)


if __name__ == "__main__":
    unittest.main()
