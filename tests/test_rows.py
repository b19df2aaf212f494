"""The inner works of lines: masks and rows, against numbers told one by one."""

import random
import unittest

from lonetill.masks import backwards, folded, last_in, mirrored_rests, next_in, ones, reduced, turned, window
from lonetill.rows import combined, first_unlike, last_unlike, part_of, tidy, trimmed
from lonetill.seeks import has_number, next_unlike, previous_unlike


def rests(step, bits, low, high):
    """The set of the numbers from low to high with one of the rests."""
    return {number for number in range(low, high + 1) if (bits >> (number % step)) & 1}


def random_mask(dice):
    """A period and a mask of some of its rests."""
    step = dice.randint(1, 12)
    return step, dice.randrange(1, 1 << step)


def random_rows(dice):
    """Tidy rows between -60 and 60, perhaps without ends."""
    marks = sorted(dice.sample(range(-60, 60), 2 * dice.randint(1, 3)))
    ends = [None if dice.random() < 0.3 and mark in (marks[0], marks[-1]) else mark for mark in marks]
    rows = [(ends[k], ends[k + 1]) + random_mask(dice) for k in range(0, len(ends), 2)]
    return tidy([row for row in rows if rests(row[2], row[3], row[0] or -99, row[1] or 99)])


def members(rows, low, high):
    """The set of the numbers of the rows from low to high."""
    return {number for number in range(low, high + 1) if has_number(rows, number)}


class Masks(unittest.TestCase):
    def test_against_numbers(self):
        dice = random.Random(1)
        for _ in range(500):
            step, bits = random_mask(dice)
            low, by = dice.randint(-40, 40), dice.randint(-40, 40)
            these = rests(step, bits, -200, 200)
            self.assertEqual({low + k for k in ones(window(step, bits, low, 50))}, rests(step, bits, low, low + 49))
            self.assertEqual(rests(step, turned(bits, step, by), low, low + 40),
                             {x for x in range(low, low + 41) if x - by in these})
            self.assertEqual(rests(step, mirrored_rests(bits, step), -50, 50), {-x for x in these if -50 <= x <= 50})
            self.assertEqual(next_in(step, bits, low), min(x for x in these if x >= low))
            self.assertEqual(last_in(step, bits, low), max(x for x in these if x <= low))
            self.assertEqual(ones(backwards(bits, step)), sorted(step - 1 - k for k in ones(bits)))
            self.assertEqual(set(ones(folded(bits, 5))), {k % 5 for k in ones(bits)})
            small, less = reduced(step, bits)
            self.assertEqual(rests(small, less, -50, 50), {x for x in these if -50 <= x <= 50})
            self.assertFalse(any(all(((x in these) == (x + k in these)) for x in range(60)) for k in range(1, small)))


class Rows(unittest.TestCase):
    def test_trimmed(self):
        dice = random.Random(2)
        for _ in range(500):
            step, bits = random_mask(dice)
            low = dice.randint(-40, 40)
            high = low + dice.randint(0, 30)
            found = trimmed((low, high, step, bits))
            known = rests(step, bits, low, high)
            self.assertEqual(members(found, low - 40, high + 40), known)
            if known:
                self.assertEqual([(row[0], row[1]) for row in found], [(min(known), max(known))])

    def test_unlike_ones(self):
        dice = random.Random(3)
        for _ in range(3000):
            one, two = random_mask(dice), random_mask(dice)
            low = dice.randint(-30, 30)
            high = low + dice.choice([0, 1, 2, 3, 5, 40])
            unlike = rests(*one, low, high) ^ rests(*two, low, high)
            self.assertEqual(last_unlike(low, high, *one, *two), max(unlike, default=None))
            self.assertEqual(first_unlike(low, high, *one, *two), min(unlike, default=None))
            far = rests(*one, low, low + 200) ^ rests(*two, low, low + 200)
            self.assertEqual(first_unlike(low, None, *one, *two), min(far, default=None))
            far = rests(*one, high - 200, high) ^ rests(*two, high - 200, high)
            self.assertEqual(last_unlike(None, high, *one, *two), max(far, default=None))

    def test_combined_and_parted(self):
        dice = random.Random(4)
        for _ in range(400):
            one, two = random_rows(dice), random_rows(dice)
            these, those = members(one, -150, 150), members(two, -150, 150)
            self.assertEqual(members(combined("or", one, two), -150, 150), these | those)
            self.assertEqual(members(combined("and", one, two), -150, 150), these & those)
            self.assertEqual(members(combined("less", one, two), -150, 150), these - those)
            low = dice.randint(-70, 70)
            self.assertEqual(members(part_of(one, low, low + 9), -150, 150), these & set(range(low, low + 10)))
            unlike = these ^ those
            self.assertEqual(next_unlike(one, two, low), min([x for x in unlike if x >= low], default=None))
            self.assertEqual(previous_unlike(one, two, low), max([x for x in unlike if x <= low], default=None))


if __name__ == "__main__":
    unittest.main()
