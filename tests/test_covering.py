import random
import unittest
from itertools import combinations

from messageways.covering import Cover


def all_together(rows):
    found = 0
    for row in rows:
        found |= row
    return found


def slow_fewest(rows):
    for many in range(len(rows) + 1):
        for places in combinations(range(len(rows)), many):
            if all_together([rows[place] for place in places]) == all_together(rows):
                return list(places)


class CoverTest(unittest.TestCase):
    def check(self, *rows):
        self.assertEqual(Cover(list(rows)).fewest(), slow_fewest(rows))

    def test_few_rows(self):
        self.check()
        self.check(0)
        self.check(0, 1)
        self.check(1, 1)
        self.check(1, 3)
        self.check(3, 1, 2)
        self.check(1, 2, 3)

    def test_rows_that_are_forced(self):
        self.check(0b0011, 0b0110, 0b1100, 0b1000)
        self.check(0b1000, 0b1100, 0b0110, 0b0011)
        self.check(0b00011, 0b00110, 0b01100, 0b11000)

    def test_the_first_of_several(self):
        self.check(0b0011, 0b0101, 0b1010, 0b1100)
        self.check(0b0101, 0b0011, 0b1100, 0b1010)
        self.check(0b011, 0b110, 0b101)
        self.check(0b100011, 0b000111, 0b001110, 0b011100, 0b111000, 0b110001)

    def test_not_the_greatest_rows(self):
        self.check(0b00111100, 0b00001111, 0b11110000)
        self.check(0b011110, 0b000111, 0b111000, 0b100001)

    def test_random_rows(self):
        chance = random.Random(66)
        for _ in range(600):
            marks = chance.randint(1, 9)
            rows = [all_together([1 << chance.randrange(marks) for _ in range(chance.randint(0, 4))])
                    for _ in range(chance.randint(1, 10))]
            self.check(*rows)

    def test_many_rows(self):
        chance = random.Random(67)
        rows = [all_together([1 << chance.randrange(40) for _ in range(3)]) for _ in range(40)]
        places = Cover(rows).fewest()
        self.assertEqual(all_together([rows[place] for place in places]), all_together(rows))
        self.assertEqual(places, sorted(places))
        self.assertEqual(Cover([1 << place for place in range(700)]).fewest(), list(range(700)))


if __name__ == "__main__":
    unittest.main()
