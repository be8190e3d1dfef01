import random
import unittest
from math import comb

from letparts.errors import InvalidNumber, InvalidRow, TooMany
from letparts.heaps import comes_again, count_rounds, dealt, dealt_from, deals, is_garden, round_of, rounds
from tests.helpers import NOT_INTEGERS, NOT_ROWS, Case, given, listed_rows, random_row, random_unlike


def slow_dealt(row):
    """The row to which a row is dealt, part by part."""
    taken = 0
    found = []
    for part in row:
        taken += 1
        if part > 1:
            found.append(part - 1)
    if taken:
        found.append(taken)
    return tuple(sorted(found, reverse=True))


def rounds_by_dealing(number):
    """A table of the round that each row of a number reaches, and of how often it is dealt until then."""
    round_from = {}
    many = {}
    for row in listed_rows(number):
        path = []
        while row not in round_from and row not in path:
            path.append(row)
            row = slow_dealt(row)
        if row in path:
            at = path.index(row)
            for again in path[at:]:
                round_from[again] = tuple(sorted(path[at:]))
                many[again] = 0
            path = path[:at]
        for passed in reversed(path):
            round_from[passed] = round_from[row]
            many[passed] = many[row] + 1
            row = passed
    return round_from, many


def steps(number):
    """The greatest k with k * (k + 1) / 2 at most the number, and what is left."""
    k = 0
    while (k + 1) * (k + 2) // 2 <= number:
        k += 1
    return k, number - k * (k + 1) // 2


def words(length, ones):
    """How many words of noughts and ones there are, turned words being one."""
    seen = set()
    found = 0
    for word in range(1 << length):
        if bin(word).count("1") == ones and word not in seen:
            found += 1
            for _ in range(length):
                seen.add(word)
                word = (word >> 1) | ((word & 1) << (length - 1))
    return found


def words_by_divisors(length, ones):
    """The same number, by the words that are some shorter word again and again, and that no shorter one tells."""
    found = 0
    for short in range(1, length + 1):
        if length % short == 0 and ones * short % length == 0:
            found += own_words(short, ones * short // length) // short
    return found


def own_words(length, ones):
    """How many words with so many ones are no shorter word again and again."""
    found = comb(length, ones)
    for short in range(1, length):
        if length % short == 0 and ones * short % length == 0:
            found -= own_words(short, ones * short // length)
    return found


class Dealing(Case):
    def test_all_rows_dealt_on(self):
        for number in range(17):
            round_from, many = rounds_by_dealing(number)
            before = {row: [] for row in round_from}
            for row in round_from:
                before[slow_dealt(row)].append(row)
            for row in round_from:
                self.same(slow_dealt(row), dealt, row=row)
                self.same(tuple(sorted(before[row])), dealt_from, row=row)
                self.same(before[row] == [], is_garden, row=row)
                self.same(many[row] == 0, comes_again, row=row)
                self.same(many[row], deals, row=row)
                self.same(round_from[row], round_of, row=row)
            self.same(tuple(sorted(set(round_from.values()))), rounds, number=number)
            self.same(len(set(round_from.values())), count_rounds, number=number)

    def test_rounds_of_greater_numbers(self):
        for number in range(17, 32):
            round_from, many = rounds_by_dealing(number)
            self.assertEqual(rounds(number), tuple(sorted(set(round_from.values()))))
            self.assertEqual(count_rounds(number), len(set(round_from.values())))
            for row in round_from:
                self.assertIs(comes_again(row), many[row] == 0)
            for row in sorted(round_from)[::97]:
                self.assertEqual((round_of(row), deals(row)), (round_from[row], many[row]))

    def test_great_rows(self):
        lots = random.Random(101)
        for number in (59, 60, 61, 200, 400, 599, 600):
            for row in [random_row(lots, number) for _ in range(6)] + [random_unlike(lots, number) for _ in range(6)]:
                found = dealt(row)
                self.assertEqual(found, slow_dealt(row))
                self.assertIn(row, dealt_from(found))
                self.assertFalse(is_garden(found))
                for lower in dealt_from(row):
                    self.assertEqual(slow_dealt(lower), row)
                self.assertIs(is_garden(row), dealt_from(row) == ())

    def test_words(self):
        lots = random.Random(102)
        for number in (0, 1, 2, 3, 7, 44, 45, 60, 399, 400, 561, 600):
            k, ones = steps(number)
            for _ in range(20):
                more = lots.sample(range(k + 1), ones)
                row = tuple(part for part in (k - at + (at in more) for at in range(k + 1)) if part)
                self.assertTrue(comes_again(row))
                turned = [(at + 1) % (k + 1) for at in more]
                self.assertEqual(dealt(row), tuple(
                    part for part in (k - at + (at in turned) for at in range(k + 1)) if part))
        stairs = tuple(range(28, 0, -1))
        for row, again in (
                (stairs, True), (stairs[:-1], True), (stairs + (1,), True), ((29,) + stairs[1:], True),
                ((29, 28) + stairs[2:], True), ((29,) + stairs[1:-1], False), (stairs + (1, 1), False),
                ((30,) + stairs[1:], False), (stairs[:-2] + (1, 1, 1), False), ((28,) * 2 + stairs[2:], True)):
            self.same(again, comes_again, row=row)

    def test_told_rows(self):
        self.same((), dealt, row=())
        self.same(((),), dealt_from, row=())
        self.same(False, is_garden, row=())
        self.same(True, comes_again, row=())
        self.same(0, deals, row=())
        self.same(((),), round_of, row=())
        self.same((1,), dealt, row=(1,))
        self.same(((1,),), dealt_from, row=(1,))
        self.same((3, 3, 3), dealt, row=(4, 4, 1))
        self.same((600,), dealt, row=(1,) * 600)
        self.same((599, 1), dealt, row=(600,))
        self.same(((1,) * 600,), dealt_from, row=(600,))
        self.same((), dealt_from, row=(1,) * 600)
        self.same(True, is_garden, row=(2, 2, 2, 2))
        self.same(False, is_garden, row=(3, 2, 2, 2))
        self.same(False, comes_again, row=(3, 3))
        self.same(False, comes_again, row=(2, 1, 1, 1))
        self.same(True, comes_again, row=(4, 3, 2, 1))
        self.same(False, comes_again, row=(600,))

    def test_sums_above_sixty(self):
        for row in ((60,), (1,) * 60, (30, 30)):
            self.assertIn(round_of(row), rounds(60))
            path = row
            for _ in range(deals(row)):
                self.assertFalse(comes_again(path))
                path = dealt(path)
            self.assertIn(path, round_of(row))
        for function in (deals, round_of):
            for row, total in (((61,), 61), ((31, 30), 61), ((11, 10, 9, 8, 7, 6, 5, 4, 1), 61), ((1,) * 600, 600)):
                self.fails(TooMany, "given", total, function, row)
                self.fails(TooMany, "given", total, function, row=row)

    def test_wrong(self):
        for function in (dealt, dealt_from, is_garden, comes_again, deals, round_of):
            self.fails_in_order(function, ("row", (2, 1), given(InvalidRow, NOT_ROWS)))


class Rounds(Case):
    def test_numbers_of_words(self):
        for number in range(92):
            self.same(words(steps(number)[0] + 1, steps(number)[1]), count_rounds, number=number)
        for number in range(401):
            k, ones = steps(number)
            self.assertEqual(count_rounds(number), words_by_divisors(k + 1, ones), number)

    def test_all_rounds(self):
        for number in range(61):
            found = rounds(number)
            self.assertEqual(len(found), count_rounds(number))
            self.assertEqual(list(found), sorted(set(found)))
            k, ones = steps(number)
            self.assertEqual(sum(map(len, found)), comb(k + 1, ones))
            for turn in found:
                self.assertEqual(list(turn), sorted(set(turn)))
                self.assertEqual(sorted(map(slow_dealt, turn)), list(turn))
                self.assertTrue(all(sum(row) == number and comes_again(row) for row in turn))
                self.assertEqual(round_of(turn[-1]), turn)

    def test_told_numbers(self):
        self.same((((),),), rounds, number=0)
        self.same(1, count_rounds, number=0)
        self.same((((1,),),), rounds, number=1)
        self.same((((2, 1, 1), (2, 2), (3, 1)),), rounds, number=4)
        self.same(2, count_rounds, number=8)
        self.same(1, count_rounds, number=378)
        self.same(words_by_divisors(28, 22), count_rounds, number=400)

    def test_wrong(self):
        wrong = NOT_INTEGERS + (-1, -60, 10 ** 99)
        self.fails_in_order(rounds, ("number", 4, given(InvalidNumber, wrong + (61, 400, 401))))
        self.fails_in_order(count_rounds, ("number", 61, given(InvalidNumber, wrong + (401, 600))))


if __name__ == "__main__":
    unittest.main()
