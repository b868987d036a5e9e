"""Promise 17: sets and deeds, written and read."""

import copy
import random
import unittest

from doneranges.errors import BadDeed, BadStretches, BadText
from doneranges.notes import read, read_deed, written, written_deed
from doneranges.stretches import plain
from helpers import TOP, apart, asked, many_sets, refusal
from samples import GOOD, SORTS, WRONG

SIGNS = [chr(code) for code in range(32, 127)] + ["\n", "\r"]

SETS = [
    ([], ""),
    ([(0, 1, 1)], "0:1"),
    ([(7, 1, TOP)], "7:1-1000000000000"),
    ([(0, 1, 4), (0, 6, 6), (1, 1, 1)], "0:1-4,6 1:1"),
    ([(0, 1, 2), (0, 4, 5), (0, 7, 7), (3, 10, 20), (7, 999999999999, TOP)],
     "0:1-2,4-5,7 3:10-20 7:999999999999-1000000000000"),
    ([(0, 1, 3), (1, 4, 6)], "0:1-3 1:4-6"),
    ([(0, 9, 10), (0, 100, 100)], "0:9-10,100"),
]

DEEDS = [
    ((0, 3, 7, ("put", 2, -5)), "0 3 7 put 2 -5"),
    ((1, 2, 9, ("seal", ((0, 1, 4), (0, 6, 6), (1, 1, 1)))), "1 2 9 seal 0:1-4,6 1:1"),
    ((7, 1, 3, ("seal", ())), "7 1 3 seal"),
    ((0, 1, 1, ("seal", ((5, 3, 3),))), "0 1 1 seal 5:3"),
    ((7, TOP, TOP, ("bye",)), "7 1000000000000 1000000000000 bye"),
    ((0, 1, 1, ("put", 0, 0)), "0 1 1 put 0 0"),
    ((0, 1, 1, ("put", 5, TOP)), "0 1 1 put 5 1000000000000"),
    ((0, 1, 1, ("add", 5, -TOP)), "0 1 1 add 5 -1000000000000"),
    ((0, 10, 20, ("back", 7, TOP)), "0 10 20 back 7 1000000000000"),
    ((0, 1, 1, ("back", 0, 1)), "0 1 1 back 0 1"),
]

# Words that are no number wherever they stand.
NO_NUMBERS = ["", "00", "01", "0123", "10000000000000", "00000000000001", "99999999999999", "1" * 5000, "+1", "1.", "1_0",
              "x", "1x", "x1", "0x1", "1e3", "--1", "-", "1-", "-0", "-01", "-00", "-10000000000000", "1,2", "1:1", "1\n",
              "\n1", "\n", "\r", "1\r\n", "put", "'1'", "/", "~", ":"]
# Numbers, but below 0.
BELOW = ["-1", "-5", "-1000000000000", "-9999999999999"]
# Words that can't stand in a set, wherever they come.
NO_SET_WORDS = [
    "", "0", "0:", ":1", ":", "1", "0:1,", "0:,1", "0:,", "0:1,,3", "0:1;3", "0;1", "0-1", "0:1:2", "0::1", "0:1-", "0:-1",
    "0:1-2-3", "0:1--2", "0:-", "0:1-,3", "00:1", "0:01", "0:0", "0:0-3", "0:1-03", "0:-1-3", "-0:1", "-1:1", "8:1",
    "9:1", "10:1", "0:10000000000000", "0:1000000000001", "0:9999999999999", "0:1-1000000000001", "0:1-9999999999999",
    "0:1-10000000000000", "0:" + "1" * 5000, "0:+1", "0:1.", "x", "x:1", "0:x", "0:1-x", "0:1\n", "\n0:1", "0\n:1", "\n",
    "0:1\r\n", "0:1,3\n", "put", "0:1_0", "~",
    # Not by the fewest rows, or not rising, or a single number told as two.
    "0:1,2", "0:1-3,4", "0:1-3,4-5", "0:1-3,3", "0:1-3,2-5", "0:3,1", "0:4-5,1-2", "0:1,1", "0:1-1", "0:3-3", "0:2-1",
    "0:1,4-3", "0:5-4,9",
]


class WrittenTest(unittest.TestCase):
    def test_sets(self):
        for rows, text in SETS:
            self.assertEqual(asked(written, rows), text)

    def test_by_the_fewest_rows_rising(self):
        self.assertEqual(asked(written, [(1, 1, 1), (0, 6, 6), (0, 3, 4), (0, 1, 3), (0, 2, 2)]), "0:1-4,6 1:1")
        self.assertEqual(asked(written, [(0, 2, 2), (0, 1, 1)]), "0:1-2")
        self.assertEqual(asked(written, [(3, 5, 5)] * 200), "3:5")

    def test_bad_stretches(self):
        for wrong in [(), (0, 1), (-1, 1, 1), (8, 1, 1), (0, 0, 1), (0, 2, 1), (0, 1, TOP + 1), (0, 1, 1, 1)]:
            self.assertEqual(refusal(BadStretches, written, [wrong]).at, 0)
            self.assertEqual(refusal(BadStretches, written, [(0, 1, 1), (0, 1, 1), wrong, ()]).at, 2)
        self.assertEqual(refusal(BadStretches, written, apart(0, 2, count=201)).at, 200)

    def test_deeds(self):
        for deed, text in DEEDS:
            self.assertEqual(asked(written_deed, deed), text)

    def test_bad_deed(self):
        for wrong in WRONG:
            self.assertEqual(refusal(BadDeed, written_deed, wrong).at, 0)


class ReadTest(unittest.TestCase):
    def test_sets(self):
        for rows, text in SETS:
            self.assertEqual(asked(read, text), rows)

    def test_deeds(self):
        for deed, text in DEEDS:
            self.assertEqual(asked(read_deed, text), deed)

    def test_what_is_written_is_read_to_the_same(self):
        for deed in GOOD + SORTS:
            self.assertEqual(read_deed(written_deed(deed)), deed)
        for rows, other in many_sets(300, 2):
            self.assertEqual(read(written(rows)), plain(rows))
            deed = (3, 1, 1, ("seal", tuple(plain(rows + other))))
            self.assertEqual(read_deed(written_deed(deed)), deed)

    def test_two_hundred_rows(self):
        rows = apart(2, 3, 2, 100) + apart(5, 2, 1, 100)
        self.assertEqual(read(written(rows)), rows)
        deed = (0, 1, 1, ("seal", tuple(rows)))
        self.assertEqual(read_deed(written_deed(deed)), deed)
        # The word with the 201st can't stand there.
        text = written(rows)
        self.assertEqual(refusal(BadText, read, text + " 6:1").place, 2)
        self.assertEqual(refusal(BadText, read, text + ",999 6:1 x").place, 1)
        self.assertEqual(refusal(BadText, read_deed, written_deed(deed) + " 6:1").place, 6)

    def test_the_empty_text(self):
        self.assertEqual(read(""), [])
        self.assertEqual(refusal(BadText, read_deed, "").place, 0)

    def test_lists_of_their_own(self):
        first = read("0:1")
        first.append("changed")
        self.assertEqual(read("0:1"), [(0, 1, 1)])


class BadSetTextTest(unittest.TestCase):
    def refused_at(self, text, place):
        self.assertEqual(refusal(BadText, read, text).place, place, text)
        # A seal's words stand behind four others.
        self.assertEqual(refusal(BadText, read_deed, "7 9 9 seal " + text).place, place + 4, text)

    def test_words_that_can_not_stand_in_a_set(self):
        for word in NO_SET_WORDS:
            if word:
                self.refused_at(word, 0)
            self.refused_at(word + " 5:1 x", 0)
            self.refused_at("0:1-2,9 " + word.replace("0:", "3:"), 1)
            self.refused_at("0:1 1:1 2:4-5 " + word.replace("0:", "3:") + " 4:1", 3)

    def test_houses_rise(self):
        self.refused_at("0:1 0:3", 1)
        self.refused_at("0:1 0:1", 1)
        self.refused_at("1:1 0:1", 1)
        self.refused_at("0:1 2:1 1:1 3:1", 2)
        self.refused_at("0:1 1:1 1:5-7 x", 2)

    def test_one_blank_between(self):
        self.refused_at(" 0:1", 0)
        self.refused_at("0:1 ", 1)
        self.refused_at("0:1  1:1", 1)
        self.refused_at("0:1 1:1   2:1", 2)
        self.refused_at(" ", 0)
        self.refused_at("0:1, 3", 0)
        self.refused_at("0: 1", 0)
        self.refused_at("0 :1", 0)
        self.refused_at("0:1\n1:1", 0)
        self.refused_at("0:1 1:1\n", 1)

    def test_a_deed_is_no_set(self):
        for _, text in DEEDS:
            self.assertEqual(refusal(BadText, read, text).place, 0)


class BadDeedTextTest(unittest.TestCase):
    def refused_at(self, text, place):
        self.assertEqual(refusal(BadText, read_deed, text).place, place, text)

    def test_words_that_are_no_numbers(self):
        for text, places in [("0 3 7 put 2 5", [0, 1, 2, 4, 5]), ("0 3 7 add 2 5", [0, 1, 2, 4, 5]),
                             ("0 3 7 back 2 5", [0, 1, 2, 4, 5]), ("0 3 7 bye", [0, 1, 2]), ("0 3 7 seal", [0, 1, 2])]:
            words = text.split()
            for place in places:
                is_worth = place == 5 and words[3] != "back"
                for wrong in NO_NUMBERS + ([] if is_worth else BELOW):
                    self.refused_at(" ".join(words[:place] + [wrong] + words[place + 1:]), place)
                    # The first one counts.
                    self.refused_at(" ".join(words[:place] + [wrong] + ["x", "", "x"]), place)

    def test_the_word(self):
        for wrong in ["Put", "PUT", "puts", "pu", "", "do", "p ut", "put\n", "0", "-1", "0:1", "back,", "seal:", "byebye"]:
            self.refused_at(f"0 3 7 {wrong} 2 -5", 3)
            self.refused_at(f"0 3 7 {wrong}", 3)

    def test_a_word_left_out_at_the_end(self):
        for deed, text in DEEDS + [(deed, written_deed(deed)) for deed in SORTS]:
            words = text.split(" ")
            for many in range(4 if deed[3][0] in ("seal", "bye") else 6):
                self.refused_at(" ".join(words[:many]), many)

    def test_a_word_left_out(self):
        self.refused_at("3 7 put 2 -5", 2)
        self.refused_at("0 3 7 2 -5", 3)
        self.refused_at("0 3 7 put -5", 4)
        self.refused_at("0 3 7 put 2", 5)
        self.refused_at("1 2 seal 0:1-4,6 1:1", 2)
        self.refused_at("1 2 9 0:1-4,6 1:1", 3)

    def test_a_word_told_twice_or_put_in(self):
        self.refused_at("0 0 3 7 put 2 -5", 3)
        self.refused_at("0 3 7 put put 2 -5", 4)
        self.refused_at("0 3 7 put 2 2 -5", 6)
        self.refused_at("0 3 7 put 2 -5 -5", 6)
        self.refused_at("0 3 7 back 2 5 5", 6)
        self.refused_at("0 3 7 bye bye", 4)
        self.refused_at("0 3 7 bye 1", 4)
        self.refused_at("1 2 9 seal seal 0:1-4,6 1:1", 4)
        self.refused_at("1 2 9 seal 0:1-4,6 0:1-4,6 1:1", 5)
        self.refused_at("1 2 9 seal 0:1-4,6 1:1 1:1", 6)

    def test_words_put_otherwise(self):
        self.refused_at("put 0 3 7 2 -5", 0)
        self.refused_at("0 3 put 7 2 -5", 2)
        self.refused_at("0 3 7 put -5 2", 4)
        self.refused_at("1 2 9 seal 1:1 0:1-4,6", 5)

    def test_one_blank_between(self):
        self.refused_at(" 0 3 7 bye", 0)
        self.refused_at("0 3 7 bye ", 4)
        self.refused_at("0 3 7 seal ", 4)
        self.refused_at("0 3  7 bye", 2)
        self.refused_at("0 3 7 put 2 -5 ", 6)
        self.refused_at("0 3 7 put 2 - 5", 5)
        self.refused_at("0 3 7\nbye", 2)
        self.refused_at("0 3 7 bye\n", 3)
        self.refused_at("\n", 0)

    def test_worths_alone_may_be_below_0(self):
        for worth in (-1, -TOP, 0, TOP):
            self.assertEqual(read_deed(f"0 1 1 put 0 {worth}"), (0, 1, 1, ("put", 0, worth)))
            self.assertEqual(read_deed(f"0 1 1 add 0 {worth}"), (0, 1, 1, ("add", 0, worth)))

    def test_bad_deed(self):
        # Each word is one that can stand there, but what they tell is no deed.
        for text in ["8 1 1 bye", "9999999999999 1 1 bye", "0 0 0 bye", "0 0 1 bye", "0 2 1 bye", "0 1 0 bye",
                     "0 1 1000000000001 bye", "0 1000000000001 1000000000001 bye", "0 1 9999999999999 seal 0:1",
                     "8 1 1 seal", "0 1 1 put 6 1", "0 1 1 put 0 1000000000001", "0 1 1 add 0 -1000000000001",
                     "0 1 1 add 0 -9999999999999", "0 1 1 add 9999999999999 0", "0 1 1 back 8 1", "0 1 1 back 0 0",
                     "0 1 1 back 0 1000000000001"]:
            self.assertEqual(refusal(BadDeed, read_deed, text).at, 0, text)

    def test_bad_text_comes_ahead_of_bad_deed(self):
        self.refused_at("8 0 0 put 6", 5)
        self.refused_at("8 0 0 bye bye", 4)
        self.refused_at("8 0 0 seal 0:1 0:1", 5)
        self.refused_at("9 2 1 put 6 01", 5)


class ChangedTextsTest(unittest.TestCase):
    """Texts with signs put in, left out or exchanged: what is read is written so, all else is refused."""

    def changed(self, chance, text):
        for _ in range(chance.choice([1, 1, 2])):
            at = chance.randrange(len(text) + 1)
            sign = chance.choice(SIGNS + list("0123456789 -,:") * 8)
            text = text[:at] + chance.choice(["", sign]) + text[at + chance.randrange(2):]
        return text

    def test_changed_texts(self):
        chance = random.Random(17)
        seen = {"read": 0, "refused": 0}
        for turn in range(6000):
            deed, text = chance.choice(DEEDS) if turn % 2 else chance.choice(SETS)
            reader, writer = (read_deed, written_deed) if turn % 2 else (read, written)
            text = self.changed(chance, text)
            try:
                answer = reader(text)
            except BadText as why:
                self.assertTrue(0 <= why.place <= len(text.split(" ")), text)
                seen["refused"] += 1
            except BadDeed as why:
                self.assertEqual((reader, why.at), (read_deed, 0))
                seen["refused"] += 1
            else:
                self.assertEqual(writer(copy.deepcopy(answer)), text)
                seen["read"] += 1
        self.assertGreater(min(seen.values()), 600, seen)


if __name__ == "__main__":
    unittest.main()
