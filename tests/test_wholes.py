import unittest

from rootrooms.wholes import is_whole, is_whole_to
from tests.things import NO_WHOLES, VERY_LONG


class WholesTest(unittest.TestCase):

    def test_whole_numbers(self):
        for number in [*range(-5, 6), VERY_LONG, -VERY_LONG]:
            self.assertIs(is_whole(number), True)

    def test_truths_and_other_things_are_none(self):
        for thing in NO_WHOLES:
            self.assertIs(is_whole(thing), False)
            self.assertIs(is_whole_to(thing, 5), False)

    def test_up_to_a_number(self):
        for number in range(-5, 10):
            self.assertIs(is_whole_to(number, 5), number in [0, 1, 2, 3, 4, 5])
        self.assertIs(is_whole_to(VERY_LONG, 5), False)
        self.assertIs(is_whole_to(-VERY_LONG, 5), False)


if __name__ == "__main__":
    unittest.main()
