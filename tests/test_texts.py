import unittest

from learnyard.errors import BadRules, BadText
from learnyard.texts import read, written
from tests import brute

CHOICE = (4, [(0, ()), (1, ()), (2, (0, 1)), (2, (3,)), (3, (0,))])
TEXT = "things 4\n0:\n1:\n2: 0 1\n2: 3\n3: 0"

BAD_TEXTS = (
    ("empty", ""),
    ("a blank", " "),
    ("a line end", "\n"),
    ("only the word", "things"),
    ("no number", "things "),
    ("a number alone", "4"),
    ("another word", "thing 4"),
    ("a great letter", "Things 4"),
    ("no blank", "things4"),
    ("two blanks", "things  4"),
    ("a blank ahead", " things 4"),
    ("a blank at the end of the first row", "things 4 "),
    ("a colon behind the number", "things 4:"),
    ("two numbers", "things 4 4"),
    ("a nought ahead", "things 04"),
    ("two noughts", "things 00"),
    ("eleven things", "things 11"),
    ("far too many things", "things 999999999999999"),
    ("figures without end", "things " + "9" * 5000),
    ("noughts without end", "things " + "0" * 5000),
    ("fewer than no things", "things -1"),
    ("a plus", "things +4"),
    ("a low line", "things 1_0"),
    ("a point", "things 4.0"),
    ("no figures", "things four"),
    ("a line end at the end", "things 4\n"),
    ("a line end at the end, behind ways", "things 4\n0:\n"),
    ("two line ends at the end", "things 4\n0:\n\n"),
    ("a line end ahead", "\nthings 4"),
    ("an empty row", "things 4\n\n0:"),
    ("an empty row between ways", "things 4\n0:\n\n1:"),
    ("a row of a blank", "things 4\n "),
    ("a blank ahead of a way", "things 4\n 0:"),
    ("a blank at the end of a way", "things 4\n0: "),
    ("a blank at the end of needed things", "things 4\n0: 1 "),
    ("two blanks behind the colon", "things 4\n0:  1"),
    ("two blanks between needed things", "things 4\n0: 1  2"),
    ("a blank ahead of the colon", "things 4\n0 :"),
    ("a blank ahead of the colon, and a needed thing", "things 4\n0 : 1"),
    ("no blank behind the colon", "things 4\n0:1"),
    ("no colon", "things 4\n0"),
    ("no colon, with a needed thing", "things 4\n0 1"),
    ("two colons", "things 4\n0::"),
    ("a colon behind a needed thing", "things 4\n0: 1:"),
    ("a colon alone", "things 4\n:"),
    ("a way to nothing", "things 4\n: 1"),
    ("commas", "things 4\n0: 1,2"),
    ("a nought ahead of the thing", "things 4\n00:"),
    ("a nought ahead of a needed thing", "things 4\n0: 01"),
    ("a needed thing without end", "things 4\n0: " + "1" * 5000),
    ("a thing below 0", "things 4\n-1:"),
    ("a needed thing below 0", "things 4\n0: -1"),
    ("minus nought", "things 4\n-0:"),
    ("a plus ahead of the thing", "things 4\n+1:"),
    ("a letter for a thing", "things 4\na:"),
    ("a letter for a needed thing", "things 4\n0: a"),
    ("a thing that there is not", "things 4\n4:"),
    ("a needed thing that there is not", "things 4\n0: 4"),
    ("the thing 10 of ten", "things 10\n10:"),
    ("a needed thing 10 of ten", "things 10\n0: 10"),
    ("a way where nothing is", "things 0\n0:"),
    ("a thing that needs itself", "things 4\n1: 1"),
    ("a thing that needs itself, among others", "things 4\n1: 0 1 2"),
    ("a needed thing twice", "things 4\n0: 1 1"),
    ("needed things out of order", "things 4\n0: 2 1"),
    ("rows out of order", "things 4\n1:\n0:"),
    ("rows out of order by needed things", "things 4\n0: 1 2\n0: 1"),
    ("a row twice", "things 4\n0:\n0:"),
    ("a row twice, with needed things", "things 4\n0: 1\n0: 1"),
    ("the first row twice", "things 4\nthings 4"),
    ("the first row last", "0:\nthings 4"),
    ("ways alone", "0:\n1:"),
    ("rows that end with another sign", "things 4;0:"),
    ("a remark", "things 4\n# 0:"),
)


class WrittenTest(unittest.TestCase):
    def test_row_by_row(self):
        self.assertEqual(written(CHOICE), TEXT)
        self.assertEqual(written((0, [])), "things 0")
        self.assertEqual(written((10, [])), "things 10")
        self.assertEqual(written((10, [(9, (0, 1, 2, 3, 4, 5, 6, 7, 8))])), "things 10\n9: 0 1 2 3 4 5 6 7 8")

    def test_rows_as_told(self):
        for rules in brute.small_rules():
            rows = written(rules).split("\n")
            self.assertEqual(rows[0], "things " + str(rules[0]))
            self.assertEqual(rows[1:], [f"{thing}:" + "".join(f" {other}" for other in needed)
                                        for thing, needed in rules[1]])

    def test_signs(self):
        for rules in [CHOICE, brute.full_rules()] + brute.small_rules():
            for sign in written(rules):
                self.assertTrue((" " <= sign <= "~" and ord(sign) != 37) or sign == "\n", sign)

    def test_bad_rules(self):
        for bad in ((11, []), (-1, []), (3, [(3, ())]), (3, [(0, (0,))]), (3, [(1, ()), (0, ())]), (3, [(0,)]),
                    (3, [(0, (2, 1))]), (3, [(0, ()), (0, ())]), (10, brute.every_way(10)[:1301]), ()):
            self.assertRaises(BadRules, written, bad)


class ReadTest(unittest.TestCase):
    def test_read(self):
        self.assertEqual(read(TEXT), CHOICE)
        self.assertEqual(read("things 0"), (0, []))
        self.assertEqual(read("things 10"), (10, []))
        self.assertEqual(read("things 1\n0:"), (1, [(0, ())]))

    def test_kinds(self):
        rules = read(TEXT)
        self.assertEqual((type(rules), type(rules[0]), type(rules[1])), (tuple, int, list))
        for way in rules[1]:
            self.assertEqual((type(way), type(way[0]), type(way[1])), (tuple, int, tuple))

    def test_written_and_read_back(self):
        many = brute.small_rules() + [brute.full_rules(), (10, brute.every_way(10)[:1300])]
        for count in range(11):
            many += [(count, []), (count, [(thing, ()) for thing in range(count)])] + brute.some_rules(count, 4, count)
        for rules in many:
            text = written(rules)
            self.assertEqual(read(text), rules)
            self.assertEqual(written(read(text)), text)

    def test_what_is_not_written_so(self):
        for what, text in BAD_TEXTS:
            with self.subTest(what=what):
                self.assertRaises(BadText, read, text)

    def test_too_many_ways(self):
        rows = ["things 10"] + [f"{thing}:" + "".join(f" {other}" for other in needed)
                                for thing, needed in brute.every_way(10)[:1301]]
        self.assertEqual(len(read("\n".join(rows[:-1]))[1]), 1300)
        self.assertRaises(BadText, read, "\n".join(rows))

    def test_a_sign_more_or_fewer_or_another(self):
        # Whatever one sign makes of a good text is refused, or is just what is written so.
        signs = [chr(number) for number in range(32, 127) if number != 37] + ["\n"]
        for place in range(len(TEXT) + 1):
            changed = [TEXT[:place] + TEXT[place + 1:]]
            changed += [TEXT[:place] + sign + TEXT[place:] for sign in signs]
            changed += [TEXT[:place] + sign + TEXT[place + 1:] for sign in signs]
            for text in changed:
                try:
                    rules = read(text)
                except BadText:
                    continue
                self.assertEqual(written(rules), text)


if __name__ == "__main__":
    unittest.main()
