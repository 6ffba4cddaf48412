"""Promises 2 and 3: how far xm_take works, how many bytes are used, what is made."""

import random
import unittest

from tests.helper import CLEAR, DONE, MOST, ask, ask_new, made_whole, take

TEXTS = [
    b"<a/>",
    b"<?xml version=\"1.0\"?>\r\n<a b='1'>x</a>\r",
    b"<?xml version='1.0' encoding=\"utf-8\" standalone='no'?><a>\r\n\r&lt;\n</a>\r\n",
    b"<!-- - --><?p  d ?>\n<a z='\r\n' b = \"&#9;'>\"><b/>]]&gt;</a><!---->",
    b"<a><![CDATA[]]]]><![CDATA[>]>]]]>\r<![CDATA[<&\r\n]\r]]></a>\t",
    b"<x:a>&#x20AC;&#65536;&quot;&apos;\xe2\x82\xac<b><c d='1'/></b ></x:a\n>",
]


class Cuts(unittest.TestCase):
    def test_two_pieces_at_every_place(self):
        for data in TEXTS:
            made = made_whole(self, data)
            for cut in range(len(data) + 1):
                first, second, done = ask_new(take(data[:cut]), take(data[cut:]), DONE)
                self.assertEqual((first[:2], second[:2], done), ((0, cut), (0, len(data) - cut), 1), (data, cut))
                self.assertEqual(first[2] + second[2], made)

    def test_byte_by_byte(self):
        for data in TEXTS:
            told = ask_new(*[take(data[at:at + 1]) for at in range(len(data))], DONE)
            self.assertEqual(told[-1], 1)
            self.assertEqual({answer[:2] for answer in told[:-1]}, {(0, 1)})
            self.assertEqual(b"".join(answer[2] for answer in told[:-1]), made_whole(self, data))

    def test_empty_pieces_change_nothing(self):
        for data in TEXTS:
            calls = []
            for at in range(0, len(data), 2):
                calls += [take(b"", 0), take(data[at:at + 2]), take(b"")]
            told = ask_new(*calls)
            self.assertEqual(b"".join(answer[2] for answer in told), made_whole(self, data))
            self.assertEqual(told[0::3] + told[2::3], [(0, 0, b"")] * (2 * len(told) // 3))

    def test_three_pieces(self):
        for data in TEXTS:
            made = made_whole(self, data)
            for first in range(0, len(data), 3):
                for second in range(first, len(data), 2):
                    told = ask_new(take(data[:first]), take(data[first:second]), take(data[second:]), DONE)
                    self.assertEqual(told[3], 1)
                    self.assertEqual(b"".join(answer[2] for answer in told[:3]), made)

    def test_made_as_soon_as_the_piece_is_there(self):
        told = ask_new(*[take(bytes([byte])) for byte in b"<a b=''>x&lt;]<!--x-->y<?p?></a>"])
        made = [answer[2] for answer in told]
        wanted = [b""] * 32
        wanted[7] = b"<a b=\"\">"
        wanted[8] = b"x"
        wanted[12] = b"&lt;"
        wanted[13] = b"]"
        wanted[22] = b"y"
        wanted[27] = b"<?p?>"
        wanted[31] = b"</a>"
        self.assertEqual(made, wanted)


class Room(unittest.TestCase):
    def test_one_less_just_as_much_and_one_more(self):
        cases = [
            (b"", b"<a>", b"<a>"),
            (b"", b"<a b='\"'/>", b"<a b=\"&quot;\"></a>"),
            (b"", b"<?p   x?>", b"<?p x?>"),
            (b"<a>", b"x", b"x"),
            (b"<a>", b">", b"&gt;"),
            (b"<a>", b"&#xFFFD;", b"\xef\xbf\xbd"),
            (b"<a>", b"&#13;", b"&#13;"),
            (b"<a>", b"\r\n", b"\n"),
            (b"<a><![CDATA[", b"&", b"&amp;"),
            (b"<a>", b"</a \t>", b"</a>"),
        ]
        for before, data, made in cases:
            size = len(made)
            for most in (0, size - 1):
                told = ask_new(take(before), take(data, most), take(data, size))
                self.assertEqual(told[1:], [(0, 0, b""), (0, len(data), made)], data)
            for most in (size, size + 1):
                self.assertEqual(ask_new(take(before), take(data, most))[1], (0, len(data), made), data)

    def test_what_was_made_by_the_same_call_counts(self):
        data = b"<a>xy</a>"
        wanted = {0: (0, b""), 2: (0, b""), 3: (3, b"<a>"), 4: (4, b"<a>x"), 5: (5, b"<a>xy"), 8: (5, b"<a>xy"),
                  9: (9, b"<a>xy</a>"), 10: (9, b"<a>xy</a>")}
        for most, (used, made) in wanted.items():
            self.assertEqual(ask_new(take(data, most))[0], (0, used, made))

    def test_a_call_again_with_what_was_not_used(self):
        for data in TEXTS:
            made = made_whole(self, data)
            for most in (1, 2, 3, 5, 8, 13, 21):
                self.go_through(data, most, made)

    def go_through(self, data, most, made):
        calls = [CLEAR]
        sent = b""
        at = 0
        while True:
            calls.append(take(data[at:], most))
            status, used, piece = ask(*calls)[-1]
            self.assertEqual(status, 0)
            self.assertLessEqual(len(piece), most)
            if not used and not piece:
                break
            at += used
            sent += piece
        # What stopped it is either the end of the bytes or a piece that never goes within most.
        self.assertTrue(made.startswith(sent))
        if at < len(data):
            self.assertGreater(len(ask(*calls, take(data[at:]))[-1][2]), most)
        else:
            self.assertEqual(sent, made)

    def test_pieces_that_make_nothing_need_no_room(self):
        data = b"<?xml version='1.0'?> \t\r\n\r<!-- x -->\n"
        self.assertEqual(ask_new(take(data, 0))[0], (0, len(data), b""))
        told = ask_new(take(b"<a>"), take(b"<![CDATA[]]><!--x--><![CDATA[]]>y", 0))
        self.assertEqual(told[1], (0, 32, b""))
        told = ask_new(take(b"<a/>", 7), take(b" \n<!---->\r\n", 0), DONE)
        self.assertEqual(told, [(0, 4, b"<a></a>"), (0, 11, b""), 1])

    def test_they_are_worked_on_up_to_a_piece_without_room(self):
        self.assertEqual(ask_new(take(b"  <!--x--> <a/>", 6))[0], (0, 11, b""))

    def test_bytes_of_earlier_calls_stay(self):
        told = ask_new(take(b"<ab"), take(b"c>", 4), take(b"c>", 4), take(b"c>", 5))
        self.assertEqual(told, [(0, 3, b""), (0, 0, b""), (0, 0, b""), (0, 2, b"<abc>")])

    def test_bytes_that_were_not_used_may_be_others_next_time(self):
        told = ask_new(take(b"<ab"), take(b"c>", 0), take(b" d='1'/>"), DONE)
        self.assertEqual(told[1:], [(0, 0, b""), (0, 8, b"<ab d=\"1\"></ab>"), 1])

    def test_held_bytes_that_are_pieces_of_their_own(self):
        told = ask_new(take(b"<a><![CDATA[]]"), take(b"x", 0), take(b"x", 1), take(b"x", 1), take(b"x", 1))
        self.assertEqual(told[1:], [(0, 0, b""), (0, 0, b"]"), (0, 0, b"]"), (0, 1, b"x")])
        told = ask_new(take(b"<a><![CDATA[]]"), take(b"xy", 2), take(b"xy", 2))
        self.assertEqual(told[1:], [(0, 0, b"]]"), (0, 2, b"xy")])
        told = ask_new(take(b"<a>\r"), take(b"x", 0), take(b"x", 1), take(b"x", 1))
        self.assertEqual(told[1:], [(0, 0, b""), (0, 0, b"\n"), (0, 1, b"x")])

    def test_a_begun_piece_behind_one_without_room_is_not_used(self):
        self.assertEqual(ask_new(take(b"<a>x<b", 3))[0], (0, 3, b"<a>"))
        self.assertEqual(ask_new(take(b"<a>x<b", 4))[0], (0, 6, b"<a>x"))

    def test_a_fault_behind_a_piece_without_room_is_not_met_yet(self):
        told = ask_new(take(b"<a>\x01", 2), take(b"<a>\x01", 3), take(b"", 3))
        self.assertEqual(told, [(0, 0, b""), (-1, 3, b"<a>"), (-1, 0, b"")])
        told = ask_new(take(b"<a>"), take(b"\r\x01", 0), take(b"\r\x01", 1))
        self.assertEqual(told[1:], [(0, 0, b""), (-1, 1, b"\n")])

    def test_a_fault_needs_no_room(self):
        self.assertEqual(ask_new(take(b"x", 0))[0], (-1, 0, b""))
        self.assertEqual(ask_new(take(b"<a b='' b=''>", 0))[0], (-1, 0, b""))

    def test_a_piece_that_makes_more_than_6000(self):
        data = b"<a b='" + b"\"" * 1000 + b"'>"
        self.assertEqual(ask_new(take(data), take(data), DONE), [(0, 0, b""), (0, 0, b""), 0])
        data = b"<a b='" + b"\"" * 998 + b"1234'>"
        status, used, made = ask_new(take(data))[0]
        self.assertEqual((status, used, len(made)), (0, len(data), 6000))
        data = b"<a b='" + b"\"" * 998 + b"12345'>"
        self.assertEqual(ask_new(take(data))[0], (0, 0, b""))

    def test_random_cuts_and_rooms_make_the_same(self):
        chance = random.Random(5)
        for data in TEXTS * 20:
            calls = [CLEAR]
            sent = b""
            at = 0
            while at < len(data) and len(calls) < 150:
                size = chance.randrange(1, 12)
                calls.append(take(data[at:at + size], chance.choice((0, 1, 4, 9, 30, MOST))))
                status, used, made = ask(*calls)[-1]
                self.assertEqual(status, 0)
                at += used
                sent += made
            told = ask(*calls, take(data[at:]), DONE)
            self.assertEqual((sent + told[-2][2], told[-1]), (made_whole(self, data), 1))


if __name__ == "__main__":
    unittest.main()
