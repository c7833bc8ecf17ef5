import re
import unittest
from random import Random

from helper import BOUND, check_refusal, things_of_no_kind
from lateknow.errors import NoText, TooGreat
from lateknow.games import read_game, rule_of, world_start
from lateknow.least import best, way_price
from lateknow.reports import report

EIGHT = "a b c d e f g h"
ASK_LINE = re.compile(r"pay (\d+) price (\d+) height (\d+) at (\S+(?: \S+)*)")


def games():
    """Texts of games of each world, of few asks and of many."""
    dice = Random(21)
    texts = ["line 0\nask 5\nask -5", "line 0 10\nask 3\nask 9\nask 3", "shelf a\nask a", "hire 1\nask 0\nask 1",
             "ways 1 5 0\nask 3\nask 4", "store a\nask b\nask a", "bags 1\nask 1\nask 1",
             "bags 10\nask 7\nask 4\nask 3"]
    texts.append("line -9 0 4" + "".join(f"\nask {dice.randint(-3, 3)}" for turn in range(40)))
    texts.append("line 0 1 2 3 4 5" + "".join(f"\nask {dice.randint(0, 6)}" for turn in range(50)))
    texts.append("shelf d c b a" + "".join(f"\nask {dice.choice('abcd')}" for turn in range(30)))
    texts.append("hire 100" + "".join(f"\nask {dice.randint(0, 9)}" for turn in range(60)))
    texts.append("ways 8 30 3" + "".join(
        "\nask " + " ".join(str(dice.randint(0, 9)) for way in range(8)) for turn in range(100)))
    texts.append("store c a b" + "".join(f"\nask {dice.choice('abcde')}" for turn in range(60)))
    texts.append("bags 4" + "".join(f"\nask {dice.choice((3, 2, 1))}" for turn in range(8)))
    return texts


def values_of(words):
    return tuple([int(word) if word.lstrip("-").isdigit() else word for word in words.split(" ")])


class ReportTest(unittest.TestCase):
    def check_report(self, text, lines):
        self.assertEqual(report(text), "\n".join(lines))

    def test_the_documents_own(self):
        self.check_report("hire 3\nask 2\nask 2", [
            "pay 2 price 3 height 9 at 1",
            "pay 3 price 0 height 0 at 1",
            "paid 5 least 3",
            "factor 5 3 begin 0",
        ])

    def test_of_each_world(self):
        # Of each of these games there is one best way alone.
        self.check_report("line 0 10\nask 3\nask 9\nask 3\nask -4", [
            "pay 6 price 3 height 10 at 3 10",
            "pay 2 price 1 height 6 at 3 9",
            "pay 0 price 0 height 6 at 3 9",
            "pay 7 price 7 height 13 at -4 9",
            "paid 15 least 11",
            "factor 2 1 begin 10",
        ])
        self.check_report("shelf a b\nask b\nask b\nask b", [
            "pay 2 price 2 height 0 at b a",
            "pay 1 price 1 height 0 at b a",
            "pay 1 price 1 height 0 at b a",
            "paid 4 least 4",
            "factor 3 2 begin 0",
        ])
        self.check_report("hire 3\nask 1\nask 1", [
            "pay 1 price 1 height 2 at 0",
            "pay 1 price 1 height 4 at 0",
            "paid 2 least 2",
            "factor 5 3 begin 0",
        ])
        self.check_report("ways 2 10 1\nask 0 4\nask 0 4\nask 0 4", [
            "pay 4 price 10 height 26 at 0",
            "pay 4 price 0 height 22 at 0",
            "pay 4 price 0 height 18 at 0",
            "paid 12 least 10",
            "factor 3 1 begin 0",
        ])
        self.check_report("store c a b\nask d\nask c\nask b\nask d", [
            "pay 1 price 1 height 1 at b c d",
            "pay 1 price 0 height 0 at b c d",
            "pay 0 price 0 height 0 at b c d",
            "pay 0 price 0 height 0 at b c d",
            "paid 2 least 1",
            "factor 3 1 begin 0",
        ])
        self.check_report("bags 10\nask 4\nask 7\nask 6\nask 3", [
            "pay 1 price 1 height 16 at 4",
            "pay 1 price 1 height 25 at 4 7",
            "pay 1 price 0 height 12 at 7 10",
            "pay 0 price 0 height 9 at 10 10",
            "paid 3 least 2",
            "factor 20 10 begin 10",
        ])

    def test_without_asks(self):
        for text, last in (("line 1 4 9", "factor 3 1 begin 16"), ("line 7", "factor 1 1 begin 0"),
                           (f"shelf {EIGHT}", "factor 15 8 begin 0"), ("hire 6", "factor 11 6 begin 0"),
                           ("ways 8 5 7", "factor 15 1 begin 0"), (f"store {EIGHT}", "factor 8 1 begin 0"),
                           ("bags 6", "factor 12 6 begin 6")):
            self.check_report(text, ["paid 0 least 0", last])
            self.check_report("\n" + text + "\n\n", ["paid 0 least 0", last])

    def test_great_numbers(self):
        self.check_report(f"line -{BOUND}\nask {BOUND}", [
            f"pay {2 * BOUND} price {2 * BOUND} height 0 at {BOUND}", f"paid {2 * BOUND} least {2 * BOUND}",
            "factor 1 1 begin 0"])
        self.check_report(f"hire {BOUND}\nask {BOUND - 1}", [
            f"pay {BOUND - 1} price {BOUND - 1} height {(BOUND - 1) ** 2} at 0", f"paid {BOUND - 1} least {BOUND - 1}",
            f"factor {2 * BOUND - 1} {BOUND} begin 0"])

    def test_two_hundred_asks(self):
        lines = report("hire 1000" + "\nask 1" * 200).split("\n")
        self.assertEqual(lines[:2], ["pay 1 price 1 height 999 at 0", "pay 1 price 1 height 1998 at 0"])
        self.assertEqual(lines[199], "pay 1 price 1 height 199800 at 0")
        self.assertEqual(lines[200:], ["paid 200 least 200", "factor 1999 1000 begin 0"])
        lines = report("bags 3" + "\nask 2" * 200).split("\n")
        self.assertEqual(len(lines), 202)
        self.assertEqual(lines[199], "pay 1 price 1 height 402 at" + " 2" * 200)
        check_refusal(self, NoText, report, "hire 1000" + "\nask 1" * 201, row=201)


class HeldAgainstABestWayTest(unittest.TestCase):
    def check_lines(self, text):
        """Each line, read again, tells the rule's pay, a best way's price and state, and the height behind."""
        word, start, wishes = read_game(text)
        rule, (world, begin) = rule_of(word, start), world_start(word, start)
        first_height = rule.height(begin)
        top, bottom = rule.factor()
        lines = report(text).split("\n")
        self.assertEqual(len(lines), len(wishes) + 2)
        way, prices, height = [], [], first_height
        for wish, line in zip(wishes, lines):
            cost, price, behind, words = ASK_LINE.fullmatch(line).groups()
            state = values_of(words)
            before = way[-1] if way else begin
            way.append(state[0] if word in ("hire", "ways") else state)
            prices.append(int(price))
            self.assertEqual(int(price), world.price(before, wish, way[-1]))
            self.assertIn((way[-1], int(price)), world.moves(before, wish))
            self.assertEqual(int(cost), rule.pay(wish))
            self.assertEqual(int(behind), rule.height(way[-1]))
            self.assertLessEqual(bottom * int(cost) + int(behind) - height, top * int(price))
            height = int(behind)
        least = best(world, begin, wishes)[0]
        self.assertEqual(way_price(world, begin, wishes, way), least)
        self.assertEqual(sum(prices), least)
        self.assertEqual(lines[-2], f"paid {rule.paid()} least {least}")
        self.assertEqual(lines[-1], f"factor {top} {bottom} begin {first_height}")
        self.assertLessEqual(bottom * rule.paid(), top * least + first_height)

    def test_games(self):
        for text in games():
            self.check_lines(text)
            self.assertEqual(report(text), report(text))
            self.assertEqual(report("\n" + text.replace("\n", "\n\n") + "\n"), report(text))


class RefusalTest(unittest.TestCase):
    def test_no_text(self):
        wrong = [thing for thing in things_of_no_kind() if not isinstance(thing, str)]
        for thing in wrong + [0, 1, (), ("hire 3",), ["hire 3"], {"hire": 3}, b"hire 3", "", "\n", "\n" * 9, " ", "\t"]:
            check_refusal(self, NoText, report, thing, row=0)

    def test_wrong_texts(self):
        for text, row in (("hire", 0), ("\n\nhire 0", 2), ("ask 1", 0), ("hire 3\nask", 1), ("hire 3\n\nask -1", 2),
                          ("line 1 0", 0), ("line 0 1\nask a", 1), ("shelf a b\nask a\nask c", 2), ("store a a", 0),
                          ("ways 2 5 2", 0), ("ways 2 5 1\nask 1", 1), ("bags 5\nask 5\nask 6", 2), ("hire 3\n ", 1)):
            check_refusal(self, NoText, report, text, row=row)

    def test_too_great(self):
        things = f"shelf {EIGHT}"
        for text in ("shelf a b c d e\nask a", things + "\nask a", f"store {EIGHT}\nask i\nask j\nask k",
                     "line 0 100 200 300 400 500\nask 50\nask 150\nask 250\nask 350",
                     "bags 1000" + "".join(f"\nask {size}" for size in (1, 2, 4, 8, 16, 32, 64, 128))):
            check_refusal(self, TooGreat, report, text)
        report("shelf a b c d\nask a")
        report("shelf a b c d e")
        report(f"store {EIGHT}\nask i\nask j")

    def test_no_text_goes_ahead_of_too_great(self):
        check_refusal(self, NoText, report, "shelf a b c d e\nask a\nask f", row=2)
        check_refusal(self, NoText, report, f"store {EIGHT}\nask i\nask j\nask k\nask 1", row=4)
        check_refusal(self, NoText, report, "shelf a b c d e" + "\nask a" * 201, row=201)


if __name__ == "__main__":
    unittest.main()
