import unittest

from helper import BOUND, things_of_no_kind, things_of_no_name, tuples_with
from lateknow.kinds import are_names, is_amount, is_from_one_to, is_name, is_place, is_row_of_names, is_whole_number

EIGHT = ("a", "b", "c", "d", "e", "f", "g", "h")


class KindsTest(unittest.TestCase):
    def test_whole_numbers(self):
        for number in (0, 1, -1, BOUND, -BOUND, 10 ** 40):
            self.assertIs(is_whole_number(number), True)
        for thing in things_of_no_kind() + [(), (0,)]:
            for asked in (is_whole_number, is_amount, is_place, lambda some: is_from_one_to(some, 5)):
                self.assertIs(asked(thing), False)

    def test_bounds_of_numbers(self):
        for number in (-BOUND - 1, -BOUND, -1, 0, 1, 5, 6, BOUND, BOUND + 1):
            self.assertIs(is_amount(number), 0 <= number <= BOUND)
            self.assertIs(is_place(number), -BOUND <= number <= BOUND)
            self.assertIs(is_from_one_to(number, 5), 1 <= number <= 5)

    def test_names(self):
        for name in ("a", "z", "az", "abcdefgh", "zzzzzzzz", "name"):
            self.assertIs(is_name(name), True)
        for thing in things_of_no_name() + [(), ("a",)]:
            self.assertIs(is_name(thing), False)

    def test_rows_of_names(self):
        for many in range(10):
            row = (EIGHT + ("i",))[:many]
            self.assertIs(are_names(row), True)
            self.assertIs(is_row_of_names(row), 1 <= many <= 8)
            self.assertIs(is_row_of_names(list(row)), False)
        twice = [("a", "a"), EIGHT[:7] + ("a",)]
        for thing in things_of_no_name() + tuples_with(things_of_no_name(), ("x", "y")) + twice:
            self.assertIs(are_names(thing), False)
            self.assertIs(is_row_of_names(thing), False)


if __name__ == "__main__":
    unittest.main()
