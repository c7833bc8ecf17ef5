import unittest
from itertools import product

from helper import BOUND, check_refusal, face_of, things_of_no_kind
from lateknow.bags import Bags, Filler
from lateknow.errors import NoText
from lateknow.games import read_game, rule_of, world_start
from lateknow.hire import Buyer, Hire
from lateknow.line import Both, Line
from lateknow.shelf import Front, Shelf
from lateknow.stores import Keeper, Store
from lateknow.ways import Changer, Ways

# Words that write no number, each but one sign from one.
NO_FIGURES = [
    "", "-", "--1", "-0", "00", "01", "-01", "007", "-00", "+1", "+0", "1.0", "1.", "1e3", "0x1", "1_0", "1,0", "1-",
    "a1", "1a", "O", "l", "one", "\t1", "1\t", "$1", "1/2", "/", ":", "(1)", "'1'",
    "10000000000000000000", "-10000000000000000000", "0" * 19, "0000000000000000001", "1" * 20, "-" + "1" * 20,
    "9" * 30, "1" * 5000, "0" * 5000,
]
PAST_BOUND = [str(BOUND + 1), str(-BOUND - 1), "9" * 19, "-" + "9" * 19]
NO_NAMES = [
    "", "A", "aB", "abC", "a1", "1a", "1", "0", "-1", "a-b", "a_b", "a.b", "a\t", "\ta", "`", "{", "a`", "{a", "@",
    "abcdefghi", "a" * 5000,
]


class GameTest(unittest.TestCase):
    def check_game(self, text, word, start, wishes):
        found = read_game(text)
        self.assertEqual(found, (word, start, wishes))
        self.assertEqual([part.__class__ for part in found], [str, tuple, list])
        self.assertEqual([part.__class__ for part in found[1]], [part.__class__ for part in start])
        self.assertEqual([part.__class__ for part in found[2]], [part.__class__ for part in wishes])

    def check_no_text(self, text, row):
        check_refusal(self, NoText, read_game, text, row=row)

    def check_no_words(self, ahead, words, behind=""):
        """The words, set between these two, write no game, and the row is that of the last line."""
        for word in words:
            text = ahead + word + behind
            self.check_no_text(text, text.count("\n"))


class ReadTest(GameTest):
    def test_games(self):
        self.check_game("line -5 0 0 7\nask 3\nask -12\nask 0", "line", (-5, 0, 0, 7), [3, -12, 0])
        self.check_game("shelf milk bread\nask bread\nask milk", "shelf", ("milk", "bread"), ["bread", "milk"])
        self.check_game("hire 3\nask 2\nask 0\nask 2", "hire", (3,), [2, 0, 2])
        self.check_game("ways 3 10 2\nask 0 1 2\nask 9 9 9", "ways", (3, 10, 2), [(0, 1, 2), (9, 9, 9)])
        self.check_game("store c a b\nask d\nask a\nask line", "store", ("c", "a", "b"), ["d", "a", "line"])
        self.check_game("bags 10\nask 1\nask 10\nask 4", "bags", (10,), [1, 10, 4])

    def test_games_without_asks(self):
        for text, word, start in (("line 0", "line", (0,)), ("shelf a", "shelf", ("a",)), ("hire 1", "hire", (1,)),
                                  ("ways 1 0 0", "ways", (1, 0, 0)), ("store a", "store", ("a",)),
                                  ("bags 1", "bags", (1,))):
            self.check_game(text, word, start, [])
            self.check_game("\n\n" + text + "\n\n\n", word, start, [])

    def test_words_of_the_texts_as_names(self):
        self.check_game("store ask store line\nask ask\nask bags", "store", ("ask", "store", "line"), ["ask", "bags"])
        self.check_game("shelf ask shelf\nask shelf\nask ask", "shelf", ("ask", "shelf"), ["shelf", "ask"])

    def test_lines_without_signs_are_passed_over(self):
        self.check_game("\n\n\nhire 3\n\nask 2\n\n\nask 1\n\n", "hire", (3,), [2, 1])
        self.check_game("hire 3\nask 2\n", "hire", (3,), [2])

    def test_no_line_has_signs(self):
        for text in ("", "\n", "\n\n", "\n" * 100, "\n" * 100000):
            self.check_no_text(text, 0)

    def test_no_text(self):
        wrong = [thing for thing in things_of_no_kind() if not isinstance(thing, str)]
        wrong += [0, 1, -1, 3, BOUND, (), ("hire 3",), ["hire 3"], ["hire 3", "ask 2"], [["hire", 3]], {"hire": 3},
                  {"hire 3": "ask 2"}, ("hire", (3,), [2]), b"hire 3", bytearray(b"hire 3")]
        for thing in wrong:
            self.check_no_text(thing, 0)

    def test_texts_that_tell_nothing(self):
        for text in (" ", "\t", "-", "0", "1", "a", "~", "hire", "ask", "#", "hire3", "Hire 3", "HIRE 3", "hire:3"):
            self.check_no_text(text, 0)
            self.check_no_text("\n\n" + text, 2)
            self.check_no_text("\n\n" + text + "\n\n\n", 2)


class FirstLineTest(GameTest):
    def test_strange_first_words(self):
        for word in ("", "asks", "buy", "lines", "lin", "Line", "shelves", "way", "stores", "bag", "world", "hire\t"):
            for rest in ("", " 1", " 1 2", " 1 0 0", " a", " a b"):
                self.check_no_text(word + rest + "\n", 0)
                self.check_no_text("\n" + word + rest + "\nask 1", 1 if word + rest != "" else 2)

    def test_an_ask_as_the_first_line(self):
        for text in ("ask", "ask 1", "ask a", "ask 1 2", "ask 1\nhire 3", "ask 1\nask 1"):
            self.check_no_text(text, 0)
            self.check_no_text("\n\n\n" + text, 3)

    def test_places(self):
        for many in range(1, 7):
            places = tuple(range(-2, many - 2))
            self.check_game("line " + " ".join(map(str, places)), "line", places, [])
        self.check_game("line 5 5 5 5 5 5", "line", (5,) * 6, [])
        self.check_game(f"line -{BOUND} -1 0 {BOUND}", "line", (-BOUND, -1, 0, BOUND), [])
        for text in ("line", "line 0 1 2 3 4 5 6", "line 0 0 0 0 0 0 0", "line" + " 1" * 1000):
            self.check_no_text(text, 0)

    def test_a_place_less_than_the_one_before(self):
        for rest in ("1 0", "0 -1", "0 5 4", "-1 -2", "0 1 2 3 5 4", f"{BOUND} {BOUND - 1}", "3 2 1", "10 9",
                     "0 2 1 3"):
            self.check_no_text("line " + rest, 0)

    def test_words_that_are_no_places(self):
        for words in (NO_FIGURES, PAST_BOUND, ["a", "abc"]):
            self.check_no_words("line ", words)
            self.check_no_words("line ", words, " 5")
            self.check_no_words("line 0 ", words)
            self.check_no_words("\n\nline -5 ", words, " 1")

    def test_names(self):
        names = ("a", "zzzzzzzz", "abcdefgh", "b", "name", "c", "d", "e", "f")
        for word, many in product(("shelf", "store"), range(1, 9)):
            self.check_game(word + " " + " ".join(names[:many]), word, names[:many], [])
            self.check_game(word + " " + " ".join(reversed(names[:many])), word, names[:many][::-1], [])
        for word in ("shelf", "store"):
            self.check_no_text(word, 0)
            self.check_no_text(word + " " + " ".join(names), 0)
            for rest in ("a a", "a b a", "b a a", "a b c d e f g a", "ab ab"):
                self.check_no_text(word + " " + rest, 0)
            self.check_no_words(word + " ", NO_NAMES)
            self.check_no_words(word + " a ", NO_NAMES, " b")
            self.check_no_words("\n" + word + " a ", NO_NAMES)

    def test_wholes_and_rooms(self):
        for word in ("hire", "bags"):
            for number in (1, 2, 10, 10 ** 17, BOUND - 1, BOUND):
                self.check_game(f"{word} {number}", word, (number,), [])
            self.check_no_words(word + " ", NO_FIGURES + PAST_BOUND + ["0", "-1", "a", "1 1", "1 0", "3 a"])
            self.check_no_text(word, 0)

    def test_ways(self):
        for many in range(1, 9):
            self.check_game(f"ways {many} 0 0", "ways", (many, 0, 0), [])
            self.check_game(f"ways {many} {BOUND} {many - 1}", "ways", (many, BOUND, many - 1), [])
            self.check_no_text(f"ways {many} 5 {many}", 0)
            self.check_no_text(f"ways {many} 5 {many + 1}", 0)
        for text in ("ways", "ways 2", "ways 2 5", "ways 2 5 0 0", "ways 0 5 0", "ways 9 5 0", "ways 10 5 0",
                     "ways -1 5 0", "ways 2 -1 0", "ways 2 5 -1", "ways 2 5 -2", "ways 2 a 0",
                     "ways a 5 0", "ways 2 5 a", f"ways 2 {BOUND + 1} 0", f"ways {BOUND} 5 0", f"ways 2 5 {BOUND}"):
            self.check_no_text(text, 0)
        for words in (NO_FIGURES, PAST_BOUND):
            self.check_no_words("ways ", words, " 5 0")
            self.check_no_words("ways 2 ", words, " 0")
            self.check_no_words("ways 2 5 ", words)

    def test_blanks(self):
        for line in ("line 0 1", "shelf a b", "hire 3", "ways 2 5 0", "store a b", "bags 5"):
            read_game(line)
            for text in (" " + line, line + " ", line.replace(" ", "  "), line.replace(" ", "\t"), "\t" + line,
                         line + "\t", line.replace(" ", ""), "  " + line + "  "):
                self.check_no_text(text, 0)
                self.check_no_text("\n" + text + "\n", 1)

    def test_a_line_of_blanks_has_signs(self):
        for line in (" ", "  ", "\t", " \t "):
            self.check_no_text(line + "\nhire 3", 0)
            self.check_no_text("\n" + line + "\nhire 3\nask 2", 1)
            self.check_no_text("hire 3\n" + line + "\nask 2", 1)
            self.check_no_text("hire 3\nask 2\n\n" + line, 3)


class AskTest(GameTest):
    def test_numbers(self):
        for number in (0, 1, 9, 10, 10 ** 17, BOUND - 1, BOUND):
            self.check_game(f"line 0\nask {number}", "line", (0,), [number])
            self.check_game(f"hire 3\nask {number}", "hire", (3,), [number])
            self.check_game(f"ways 1 0 0\nask {number}", "ways", (1, 0, 0), [(number,)])
        for number in (-1, -10, -BOUND + 1, -BOUND):
            self.check_game(f"line 0\nask {number}", "line", (0,), [number])
            for first in ("hire 3", "ways 1 0 0", "bags 5"):
                self.check_no_text(f"{first}\nask {number}", 1)
        for number in (1, 4, 5):
            self.check_game(f"bags 5\nask {number}", "bags", (5,), [number])
        for number in (0, 6, BOUND):
            self.check_no_text(f"bags 5\nask {number}", 1)
        self.check_game(f"bags {BOUND}\nask {BOUND}\nask 1", "bags", (BOUND,), [BOUND, 1])

    def test_words_that_write_no_number(self):
        for first in ("line 0", "hire 3", "ways 1 0 0", "bags 5", f"bags {BOUND}"):
            self.check_no_words(first + "\nask ", NO_FIGURES + PAST_BOUND + ["a", "abc"])
        for words in (NO_FIGURES, PAST_BOUND + ["-1", "a"]):
            self.check_no_words("ways 3 5 0\nask 1 ", words, " 1")
            self.check_no_words("ways 3 5 0\nask ", words, " 1 1")
            self.check_no_words("ways 3 5 0\n\nask 1 1 ", words)

    def test_charges_too_few_or_too_many(self):
        for many in range(1, 9):
            self.check_game(f"ways {many} 5 0\nask" + " 7" * many, "ways", (many, 5, 0), [(7,) * many])
            for wrong in (0, many - 1, many + 1, many + 2, 100):
                self.check_no_text(f"ways {many} 5 0\nask" + " 7" * many + "\nask" + " 7" * wrong, 2)

    def test_names(self):
        self.check_no_words("shelf a b\nask ", NO_NAMES + ["c", "ab", "aa", "ask"])
        self.check_no_words("store a b\nask ", NO_NAMES)
        self.check_game("store a b\nask zzzzzzzz\nask ab", "store", ("a", "b"), ["zzzzzzzz", "ab"])

    def test_no_word_and_more_than_one(self):
        for first, word in (("line 0", "1"), ("shelf a", "a"), ("hire 3", "1"), ("store a", "a"), ("bags 5", "1")):
            read_game(f"{first}\nask {word}")
            for line in ("ask", f"ask {word} {word}", f"ask {word} {word} {word}", "ask 0 1", "ask a b"):
                self.check_no_text(f"{first}\n{line}", 1)

    def test_strange_words_in_the_place_of_ask(self):
        for first, word in (("line 0", "1"), ("shelf a", "a"), ("hire 3", "1"), ("ways 1 1 0", "1"), ("bags 5", "1")):
            for strange in ("", "Ask", "ASK", "asks", "as", "wish", "ask:", "line", "hire", "bags", "shelf", "a", "1"):
                self.check_no_text(f"{first}\nask {word}\n{strange} {word}", 2)
            self.check_no_text(f"{first}\n{word}", 1)
            self.check_no_text(f"{first}\n{first}", 1)
            self.check_no_text(f"{first}\nask {word}\n\n{first}\nask {word}", 3)

    def test_blanks(self):
        for line in ("ask 2 3",):
            self.check_game("ways 2 5 0\n" + line, "ways", (2, 5, 0), [(2, 3)])
            for text in (" " + line, line + " ", line.replace(" ", "  "), "ask  2 3", "ask 2  3", "ask 2\t3",
                         "ask\t2 3", "\t" + line, line + "\t", "ask2 3", "ask 2 3  "):
                self.check_no_text("ways 2 5 0\n" + text, 1)
        for first, word in (("line 0", "2"), ("shelf ab", "ab"), ("hire 3", "2"), ("store ab", "ab"), ("bags 5", "2")):
            read_game(f"{first}\nask {word}")
            for text in (f" ask {word}", f"ask {word} ", f"ask  {word}", f"ask\t{word}", f"ask{word}", f"ask {word}\t"):
                self.check_no_text(f"{first}\n\n{text}", 2)

    def test_the_row_is_that_of_the_first_line_that_is_none(self):
        self.check_no_text("hire 3\nask 2\nask a\nask b", 2)
        self.check_no_text("\n\nhire 3\n\n\nask 2\n\nask a\n\nask b", 7)
        self.check_no_text("hire 0\nask a", 0)
        self.check_no_text("\nhire a\nask a", 1)
        self.check_no_text("hire 3\n\n\n\n\nask", 5)
        self.check_no_text("hire 3\nask 1\nask 2\nask 3\nask -4\nask 5", 4)

    def test_two_hundred_asks_and_one_more(self):
        for first, word, start, wish in (("hire 3", "0", (3,), 0), ("line 0", "-7", (0,), -7),
                                         ("shelf a", "a", ("a",), "a"), ("store b", "a", ("b",), "a"),
                                         ("ways 2 1 0", "0 4", (2, 1, 0), (0, 4)), ("bags 5", "5", (5,), 5)):
            ask = f"\nask {word}"
            for many in (1, 199, 200):
                self.check_game(first + ask * many, first.split(" ")[0], start, [wish] * many)
            self.check_game("\n" + first + ("\n" + ask) * 200 + "\n\n", first.split(" ")[0], start, [wish] * 200)
            self.check_no_text(first + ask * 201, 201)
            self.check_no_text(first + ask * 202, 201)
            self.check_no_text(first + ask * 500, 201)
            self.check_no_text("\n" + first + ("\n" + ask) * 201, 403)
            self.check_no_text(first + ask * 200 + "\nask\nask", 201)
            self.check_no_text(first + ask * 200 + "\n\n\nstrange" + ask, 203)

    def test_a_wrong_line_ahead_of_the_ask_too_many(self):
        self.check_no_text("hire 3" + "\nask 1" * 100 + "\nask a" + "\nask 1" * 200, 101)

    def test_a_long_text(self):
        text = "store a" + "\n" * 50000 + "ask b"
        self.check_game(text, "store", ("a",), ["b"])
        self.check_no_text(text + "\nb", 50001)


class RuleTest(unittest.TestCase):
    PAIRS = (
        ("line", (-5, 0, 7), Both, Line, (-5, 0, 7)), ("shelf", ("c", "a", "b"), Front, Shelf, ("c", "a", "b")),
        ("hire", (3,), Buyer, Hire, 0), ("ways", (4, 10, 2), Changer, Ways, 2),
        ("store", ("c", "a", "b"), Keeper, Store, ("a", "b", "c")), ("bags", (10,), Filler, Bags, ()),
    )

    def test_rules(self):
        for word, start, rule_kind, world_kind, state in self.PAIRS:
            rule = rule_of(word, start)
            self.assertIs(rule.__class__, rule_kind)
            self.assertIs(rule.world.__class__, world_kind)
            self.assertEqual((rule.state(), rule.paid()), (state, 0))

    def test_numbers_and_names_in_their_order(self):
        self.assertEqual(rule_of("store", ("c", "a", "b")).pages(), ["c", "a", "b"])
        self.assertEqual(rule_of("shelf", ("c", "a", "b")).state(), ("c", "a", "b"))
        self.assertEqual(rule_of("ways", (4, 10, 2)).numbers(), [10, 10, 0, 10])
        self.assertEqual(rule_of("hire", (7,)).factor(), (13, 7))
        self.assertEqual(rule_of("bags", (7,)).factor(), (14, 7))
        self.assertEqual(rule_of("line", (1, 1, 2)).factor(), (3, 1))

    def test_each_rule_is_new(self):
        wishes = {"line": 3, "shelf": "b", "hire": 2, "ways": (0, 0, 90, 0), "store": "d", "bags": 4}
        for word, start, rule_kind, world_kind, state in self.PAIRS:
            rule, twin = rule_of(word, start), rule_of(word, start)
            self.assertGreater(rule.pay(wishes[word]), 0)
            self.assertEqual(face_of(rule_of(word, start), [state]), face_of(twin, [state]))
            self.assertEqual(world_start(word, start)[1], state)

    def test_world_and_start(self):
        for word, start, rule_kind, world_kind, state in self.PAIRS:
            found = world_start(word, start)
            self.assertEqual((found.__class__, len(found)), (tuple, 2))
            self.assertIs(found[0].__class__, world_kind)
            self.assertEqual((found[1], found[1].__class__), (state, state.__class__))
            self.assertIs(found[0].is_state(found[1]), True)
        self.assertEqual(world_start("hire", (3,))[0].price(0, 1, 1), 3)
        self.assertEqual(world_start("ways", (4, 10, 2))[0].price(0, (1, 2, 3, 4), 1), 12)
        self.assertIs(world_start("ways", (4, 10, 2))[0].is_wish((0,) * 4), True)
        self.assertIs(world_start("bags", (10,))[0].is_wish(10), True)
        self.assertIs(world_start("bags", (10,))[0].is_wish(11), False)
        self.assertIs(world_start("line", (1, 2, 3))[0].is_state((4, 5, 6)), True)
        self.assertIs(world_start("shelf", ("c", "a"))[0].is_wish("b"), False)
        self.assertIs(world_start("store", ("c", "a"))[0].is_state(("b", "x")), True)

    def test_of_games_that_were_read(self):
        for text in ("line 0 5\nask 3", "shelf a b\nask b", "hire 3\nask 2", "ways 2 5 1\nask 1 2", "store b a\nask c",
                     "bags 5\nask 3"):
            word, start, wishes = read_game(text)
            rule = rule_of(word, start)
            self.assertIs(world_start(word, start)[0].is_wish(wishes[0]), True)
            self.assertEqual(rule.state(), world_start(word, start)[1])
            rule.pay(wishes[0])


class OwnTest(unittest.TestCase):
    def test_lists_are_ones_own_and_who_asks_again_is_told_the_same(self):
        for text in ("line 0 5\nask 3\nask 4", "ways 2 5 1\nask 1 2", "store b a\nask c", "hire 3"):
            found, again = read_game(text), read_game(text)
            self.assertEqual(found, again)
            found[2].append("changed")
            self.assertEqual(read_game(text), again)

    def test_what_is_handed_in_stays_as_it_was(self):
        handed = ["hire 3", "ask 2"]
        check_refusal(self, NoText, read_game, handed, row=0)
        self.assertEqual(handed, ["hire 3", "ask 2"])


if __name__ == "__main__":
    unittest.main()
