"""Articles: point 4, and of point 2 what they need."""

import copy
import fractions
import re
import unittest

from crewpay.articles import earns, is_articles
from crewpay.errors import NoArticles, NoRank, NoSum
from helpers import CHESTS, GOOD, LETTERS, RANKS, is_number, small_things, swapped


def of_ranks(ranks):
    return (ranks, CHESTS, 28)


def of_rank(rank="mate", pence=480, days=28):
    return of_ranks(((rank, pence, days),))


def of_chests(chests):
    return (RANKS, chests, 28)


def of_chest(chest="sick", part=3):
    return of_chests(((chest, part),))


def of_month(month):
    return (RANKS, CHESTS, month)


def many_ranks(many):
    return of_ranks(tuple((letter, 30, 1) for letter in LETTERS[:many]))


def many_chests(many):
    return of_chests(tuple((letter, 3) for letter in LETTERS[:many]))


def are_rows(thing, most_rows, bounds):
    """Whether thing is rows of a name and of numbers within these bounds, as point 4 words it."""
    if type(thing) is not tuple or len(thing) not in range(1, most_rows + 1):
        return False
    for row in thing:
        if type(row) is not tuple or len(row) != len(bounds) + 1:
            return False
        if type(row[0]) is not str or re.fullmatch("[a-z]{1,8}", row[0]) is None:
            return False
        if not all(is_number(part, least, most) for part, (least, most) in zip(row[1:], bounds)):
            return False
    names = [row[0] for row in thing]
    return names == sorted(set(names))


def by_the_words(thing):
    """Point 4 said once more, in another way than the program says it."""
    if type(thing) is not tuple or len(thing) != 3:
        return False
    ranks = are_rows(thing[0], 12, [(0, 10 ** 9), (1, 1000)])
    return ranks and are_rows(thing[1], 6, [(1, 1000)]) and is_number(thing[2], 1, 1000)


class Told(unittest.TestCase):
    def is_told(self, wanted, thing):
        with self.subTest(thing=thing):
            before = copy.deepcopy(thing)
            self.assertIs(is_articles(thing), wanted)
            self.assertIs(is_articles(thing=thing), wanted)
            self.assertEqual(thing, before)

    def test_ordinary(self):
        self.is_told(True, GOOD)
        self.is_told(True, (RANKS[1:], CHESTS[:1], 30))

    def test_count_of_ranks(self):
        for many in (1, 2, 11, 12):
            self.is_told(True, many_ranks(many))
        for many in (0, 13, 26):
            self.is_told(False, many_ranks(many))

    def test_count_of_chests(self):
        for many in (1, 2, 5, 6):
            self.is_told(True, many_chests(many))
        for many in (0, 7, 26):
            self.is_told(False, many_chests(many))

    def test_pence(self):
        for pence in (0, 1, 10 ** 9 - 1, 10 ** 9):
            self.is_told(True, of_rank(pence=pence))
        for pence in (-1, -(10 ** 9), 10 ** 9 + 1, 10 ** 20):
            self.is_told(False, of_rank(pence=pence))

    def test_days(self):
        for days in (1, 2, 999, 1000):
            self.is_told(True, of_rank(days=days))
        for days in (-1, 0, 1001, 10 ** 20):
            self.is_told(False, of_rank(days=days))

    def test_part(self):
        for part in (1, 2, 999, 1000):
            self.is_told(True, of_chest(part=part))
        for part in (-1, 0, 1001, 10 ** 20):
            self.is_told(False, of_chest(part=part))

    def test_month(self):
        for month in (1, 2, 999, 1000):
            self.is_told(True, of_month(month))
        for month in (-1, 0, 1001, 10 ** 20):
            self.is_told(False, of_month(month))

    def test_names(self):
        for name in ("a", "z", "mate", "aaaaaaaa", "zzzzzzzz", "abcdefgh"):
            self.is_told(True, of_rank(rank=name))
            self.is_told(True, of_chest(chest=name))

    def test_every_letter(self):
        for letter in LETTERS:
            self.is_told(True, of_rank(rank=letter))
            self.is_told(True, of_chest(chest=letter))

    def test_no_names(self):
        strange = ["", "abcdefghi", "x" * 4000, 1, 0, None, True, ("mate",), ["mate"], ("m", "a"), ["m", "a"], (), []]
        for sign in [chr(code) for code in range(32, 127)] + ["\n", "\t", "\u00e9", "\u00df", "\u0430"]:
            if sign not in LETTERS:
                strange += [sign, "ma" + sign, sign + "te", "ma" + sign + "te"]
        for name in strange:
            self.is_told(False, of_rank(rank=name))
            self.is_told(False, of_chest(chest=name))

    def test_one_wrong_row_among_right_ones(self):
        for at in range(3):
            self.is_told(False, of_ranks(RANKS[:at] + ((RANKS[at][0], -1, 1),) + RANKS[at + 1:]))
        for at in range(2):
            self.is_told(False, of_chests(CHESTS[:at] + ((CHESTS[at][0], 0),) + CHESTS[at + 1:]))

    def test_names_alike(self):
        self.is_told(False, of_ranks((("mate", 480, 28), ("mate", 480, 28))))
        self.is_told(False, of_ranks((("mate", 480, 28), ("mate", 500, 30))))
        self.is_told(False, of_ranks(RANKS + (("mate", 500, 28),)))
        self.is_told(False, of_ranks((("boy", 5, 1),) + RANKS))
        self.is_told(False, of_chests((("sick", 3), ("sick", 3))))
        self.is_told(False, of_chests((("sick", 3), ("sick", 4))))
        self.is_told(False, of_chests((("church", 2),) + CHESTS))

    def test_names_that_do_not_rise(self):
        self.is_told(False, of_ranks(RANKS[::-1]))
        self.is_told(False, of_ranks((RANKS[0], RANKS[2], RANKS[1])))
        self.is_told(False, of_ranks((RANKS[1], RANKS[0], RANKS[2])))
        self.is_told(False, of_chests(CHESTS[::-1]))
        self.is_told(False, of_chests((("a", 1), ("c", 1), ("b", 1))))
        self.is_told(False, of_ranks((("ab", 1, 1), ("a", 1, 1))))

    def test_names_rise_as_texts_do(self):
        self.is_told(True, of_ranks((("a", 9, 9), ("aa", 1, 1), ("ab", 5, 5), ("b", 0, 1))))
        self.is_told(True, of_chests((("a", 9), ("aa", 1), ("ab", 5), ("b", 1))))

    def test_a_name_may_be_a_ranks_and_a_chests(self):
        self.is_told(True, ((("mate", 480, 28),), (("mate", 3),), 28))

    def test_lists_for_tuples(self):
        self.is_told(False, list(GOOD))
        self.is_told(False, of_ranks(list(RANKS)))
        self.is_told(False, of_chests(list(CHESTS)))
        for at in range(3):
            self.is_told(False, of_ranks(RANKS[:at] + (list(RANKS[at]),) + RANKS[at + 1:]))
        for at in range(2):
            self.is_told(False, of_chests(CHESTS[:at] + (list(CHESTS[at]),) + CHESTS[at + 1:]))

    def test_parts_more_or_fewer(self):
        self.is_told(False, GOOD + (28,))
        self.is_told(False, (28,) + GOOD)
        self.is_told(False, GOOD[:2])
        self.is_told(False, GOOD[1:])
        self.is_told(False, GOOD[:1])
        self.is_told(False, ())
        for row in (("mate", 480, 28, 1), ("mate", 480, 28, "mate"), ("mate", 480), ("mate",), ()):
            self.is_told(False, of_ranks((row,)))
            self.is_told(False, of_ranks(RANKS[:2] + (row,)))
        for row in (("sick", 3, 3), ("sick", 3, "sick"), ("sick",), ()):
            self.is_told(False, of_chests((row,)))
            self.is_told(False, of_chests(CHESTS[:1] + (row,)))

    def test_truths_for_numbers(self):
        for truth in (True, False):
            self.is_told(False, of_rank(pence=truth))
            self.is_told(False, of_rank(days=truth))
            self.is_told(False, of_chest(part=truth))
            self.is_told(False, of_month(truth))

    def test_no_numbers(self):
        for strange in (None, "", "1", "28", (), (1,), [], [1]):
            self.is_told(False, of_rank(pence=strange))
            self.is_told(False, of_rank(days=strange))
            self.is_told(False, of_chest(part=strange))
            self.is_told(False, of_month(strange))

    def test_anything(self):
        for thing in small_things():
            self.is_told(False, thing)

    def test_anything_within_articles(self):
        told = {True: 0, False: 0}
        for strange in small_things():
            for thing in swapped(GOOD, strange):
                wanted = by_the_words(thing)
                self.assertIs(is_articles(thing), wanted, thing)
                told[wanted] += 1
        self.assertGreater(min(told.values()), 0)

    def test_again_the_same(self):
        for thing in (GOOD, list(GOOD), of_month(0)):
            self.assertEqual([is_articles(thing), is_articles(thing)], [thing == GOOD] * 2)


class Earns(unittest.TestCase):
    def is_earned(self, wanted, *given, **named):
        told = earns(*given, **named)
        self.assertIs(type(told), tuple)
        self.assertEqual([type(part) for part in told], [int, int])
        self.assertEqual(told, wanted)

    def test_whole(self):
        self.is_earned((30, 1), GOOD, "hand", 1)
        self.is_earned((900, 1), GOOD, "hand", 30)
        self.is_earned((480, 1), GOOD, "mate", 28)
        self.is_earned((120, 1), GOOD, "mate", 7)

    def test_not_whole(self):
        self.is_earned((120, 7), GOOD, "mate", 1)
        self.is_earned((240, 7), GOOD, "mate", 2)
        self.is_earned((960, 7), GOOD, "mate", 8)
        self.is_earned((999, 1000), of_rank(pence=999, days=1000), "mate", 1)

    def test_none(self):
        self.is_earned((0, 1), GOOD, "boy", 1)
        self.is_earned((0, 1), GOOD, "boy", 365)
        self.is_earned((0, 1), of_rank(pence=0, days=1000), "mate", 7)

    def test_no_days(self):
        for rank in ("boy", "hand", "mate"):
            self.is_earned((0, 1), GOOD, rank, 0)

    def test_one_day_where_none_is_told(self):
        self.is_earned((120, 7), GOOD, "mate")
        self.is_earned((30, 1), GOOD, "hand")
        self.is_earned((0, 1), GOOD, "boy")

    def test_days_of_twenty_figures(self):
        most = 10 ** 20 - 1
        self.is_earned((30 * most, 1), GOOD, "hand", most)
        self.is_earned((0, 1), GOOD, "boy", most)
        self.is_earned((10 ** 9 * most, 7), of_rank(pence=10 ** 9, days=7), "mate", most)
        self.is_earned((480 * 10 ** 19, 28 // 4), of_rank(pence=480 * 4, days=28), "mate", 10 ** 19)

    def test_bounds(self):
        self.is_earned((1, 1), of_rank(pence=1000, days=1000), "mate")
        self.is_earned((10 ** 6, 1), of_rank(pence=10 ** 9, days=1000), "mate")
        self.is_earned((10 ** 9, 1), of_rank(pence=10 ** 9, days=1), "mate")
        self.is_earned((1, 1000), of_rank(pence=1, days=1000), "mate")

    def test_first_and_last_of_twelve_ranks(self):
        articles = of_ranks(tuple((letter, at, 12) for at, letter in enumerate(LETTERS[:12])))
        for at, letter in enumerate(LETTERS[:12]):
            wanted = fractions.Fraction(at * 5, 12)
            self.is_earned((wanted.numerator, wanted.denominator), articles, letter, 5)

    def test_as_pythons_own(self):
        for pence in (0, 1, 6, 35, 480):
            for days in (1, 2, 7, 30, 360):
                for many in range(40):
                    wanted = fractions.Fraction(pence * many, days)
                    articles = of_rank(pence=pence, days=days)
                    self.is_earned((wanted.numerator, wanted.denominator), articles, "mate", many)

    def test_arguments_by_name(self):
        self.is_earned((240, 7), articles=GOOD, rank="mate", many=2)
        self.is_earned((240, 7), many=2, rank="mate", articles=GOOD)
        self.is_earned((120, 7), rank="mate", articles=GOOD)
        self.is_earned((240, 7), GOOD, "mate", many=2)

    def test_articles_are_the_same_afterwards(self):
        articles = copy.deepcopy(GOOD)
        earns(articles, "mate", 5)
        self.assertEqual(articles, GOOD)
        for rank, many, refusal in (("cook", 1, NoRank), ("mate", -1, NoSum)):
            with self.assertRaises(refusal):
                earns(articles, rank, many)
            self.assertEqual(articles, GOOD)

    def test_what_is_refused_is_the_same_afterwards(self):
        thing = [list(RANKS), [["sick", 3]], [28]]
        before = copy.deepcopy(thing)
        with self.assertRaises(NoArticles):
            earns(thing, "mate")
        self.assertEqual(thing, before)

    def test_again_the_same(self):
        self.assertEqual([earns(GOOD, "mate", 5), earns(GOOD, "mate", 5)], [(600, 7), (600, 7)])


class EarnsRefused(unittest.TestCase):
    def test_no_articles_ahead_of_all_else(self):
        for thing in small_things() + [list(GOOD), of_month(0), many_ranks(13), of_rank(pence=True)]:
            with self.subTest(thing=thing):
                for rank, many in (("mate", 1), ("cook", 1), ("mate", -1), ("cook", -1)):
                    with self.assertRaises(NoArticles):
                        earns(thing, rank, many)

    def test_no_articles_even_where_the_rank_is_sound(self):
        # The chests and the month are no part of what is earned, and are looked at all the same.
        for thing in (of_chest(part=0), of_month(1001), GOOD + (1,), of_chests(CHESTS[::-1])):
            with self.assertRaises(NoArticles):
                earns(thing, "mate", 1)

    def test_no_rank(self):
        ranks = ("", "cook", "mat", "mates", "Mate", "mate ", " mate", "mate\n", "sick", "church", "480", "x" * 4000)
        for rank in ranks:
            for many in (0, 1, 10 ** 20 - 1):
                with self.subTest(rank=rank, many=many), self.assertRaises(NoRank):
                    earns(GOOD, rank, many)
            with self.subTest(rank=rank), self.assertRaises(NoRank):
                earns(GOOD, rank)

    def test_no_rank_ahead_of_no_sum(self):
        for rank in ("", "cook", "sick"):
            for many in (-1, -(10 ** 20) + 1):
                with self.subTest(rank=rank, many=many), self.assertRaises(NoRank):
                    earns(GOOD, rank, many)

    def test_no_sum(self):
        for rank in ("boy", "hand", "mate"):
            for many in (-1, -2, -28, -(10 ** 20) + 1):
                with self.subTest(rank=rank, many=many), self.assertRaises(NoSum):
                    earns(GOOD, rank, many)
                with self.subTest(rank=rank, many=many), self.assertRaises(NoSum):
                    earns(articles=GOOD, rank=rank, many=many)


if __name__ == "__main__":
    unittest.main()
