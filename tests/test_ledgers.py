"""What is earned, had and left: points 8, 9 and 10."""

import fractions
import random
import unittest

from crewpay.errors import Faulty, NoMan, NoSum
from crewpay.ledgers import earned, had, left, next_sent, sent_on, when_earned
from helpers import (
    CHESTS, FAR, HORIZON, MOST, SlowBook, away, home, in_orders, joins, leaves, random_book, ranked,
)

# By the day: bit 1/1000, boy nothing, hand 30, mate 120/7, rich 10 ** 9, third 1/3.
PAID = ((("bit", 1, 1000), ("boy", 0, 1), ("hand", 30, 1), ("mate", 480, 28), ("rich", 10 ** 9, 1), ("third", 1, 3)), CHESTS, 28)


def by_month(month):
    return PAID[:2] + (month,)


class Telling(unittest.TestCase):
    def are_told(self, told, wanted, pages, articles=PAID):
        """wanted tells the answer for each day or sum that is asked for."""
        for book in in_orders(pages):
            for asked, answer in wanted.items():
                with self.subTest(asked=asked, book=book):
                    given = told(articles, book, "ann", asked)
                    self.assertEqual(given, answer)
                    self.assertIs(type(given), type(answer))


class Earned(Telling):
    def are_earned(self, wanted, pages):
        self.are_told(earned, wanted, pages)

    def test_lowest_terms(self):
        self.are_earned({5: (120, 7), 6: (240, 7), 11: (120, 1), 12: (960, 7), 32: (480, 1)}, [joins(5)])
        self.are_earned({5: (1, 1000), 6: (1, 500), 9: (1, 200), 1004: (1, 1), 1006: (501, 500)}, [joins(5, "bit")])

    def test_ahead_of_within_and_behind_a_stretch(self):
        pages = [joins(5, "hand"), leaves(9)]
        self.are_earned({0: (0, 1), 4: (0, 1), 5: (30, 1), 7: (90, 1), 8: (120, 1), 9: (120, 1), FAR: (120, 1)}, pages)

    def test_below_nought(self):
        for pages in ([joins(0, "hand")], [joins(5, "hand")], [away(0, 5)]):
            self.are_earned({-1: (0, 1), -5: (0, 1), -FAR: (0, 1), -MOST: (0, 1)}, pages)
        self.are_earned({0: (30, 1)}, [joins(0, "hand")])

    def test_twenty_figures(self):
        self.are_earned({MOST: (30 * (MOST - 4), 1), 10 ** 19: (30 * (10 ** 19 - 4), 1)}, [joins(5, "hand")])
        self.are_earned({MOST: (10 ** 9 * (MOST + 1), 1)}, [joins(0, "rich")])
        self.are_earned({MOST: (10 ** 20, 3)}, [joins(0, "third")])
        self.are_earned({MOST: (120 * (MOST - FAR + 1), 7)}, [joins(FAR)])
        self.are_earned({MOST: (0, 1)}, [joins(0, "boy")])

    def test_between_stretches(self):
        pages = [joins(5, "hand"), leaves(9), joins(12), leaves(14), joins(20, "third"), away(22, 23)]
        self.are_earned({8: (120, 1), 11: (120, 1), 12: (960, 7), 13: (1080, 7), 19: (1080, 7), 20: (3247, 21), 21: (3254, 21),
                         23: (3254, 21), 24: (1087, 7)}, pages)

    def test_several_ranks(self):
        wanted = fractions.Fraction(1, 1000) + fractions.Fraction(120, 7) + fractions.Fraction(1, 3) + 30
        pages = [joins(5, "bit"), ranked(6, "mate"), ranked(7, "third"), ranked(8, "hand"), ranked(9, "boy")]
        self.are_earned({8: (wanted.numerator, wanted.denominator), 9: (wanted.numerator, wanted.denominator)}, pages)

    def test_twelve_ranks(self):
        bottoms = (997, 991, 983, 977, 971, 967, 953, 947, 941, 937, 929, 919)
        ranks = tuple((letter, 10 ** 9, bottom) for letter, bottom in zip("abcdefghijkl", bottoms))
        pages = [joins(0, "a")] + [ranked(at * 10 ** 10, letter) for at, letter in enumerate("bcdefghijkl", start=1)]
        total = sum(fractions.Fraction(10 ** 19, bottom) for bottom in bottoms)
        self.are_told(earned, {12 * 10 ** 10 - 1: (total.numerator, total.denominator)}, pages, (ranks, CHESTS, 1))

    def test_away_and_lost(self):
        self.are_earned({6: (60, 1), 8: (60, 1), 9: (90, 1), MOST: (120, 1)},
                        [joins(5, "hand"), away(7, 8), ("lost", 12, 10)])
        self.are_earned({MOST: (0, 1)}, [joins(5, "hand"), ("lost", 12, 4)])

    def test_never_paid(self):
        self.are_earned({0: (0, 1), 5: (0, 1), MOST: (0, 1)}, [("fine", "ann", 5, 10)])

    def test_arguments_by_name(self):
        self.assertEqual(earned(day=6, man="ann", pages=[joins(5)], articles=PAID), (240, 7))

    def test_other_men(self):
        self.are_earned({8: (120, 1)}, [joins(5, "hand"), joins(1, "rich", "bob"), away(5, 9, "bob"), leaves(3, "cid")])


class WhenEarned(Telling):
    def are_earned(self, wanted, pages):
        self.are_told(when_earned, wanted, pages)

    def test_just_earned(self):
        self.are_earned({1: 5, 29: 5, 30: 5, 31: 6, 59: 6, 60: 6, 61: 7}, [joins(5, "hand")])
        # 120/7 by the day: 17.1.., 34.2.., .., 120 at the seventh one.
        self.are_earned({17: 5, 18: 6, 34: 6, 35: 7, 119: 11, 120: 11, 121: 12}, [joins(5)])
        self.are_earned({1: 1004, 2: 2004, 10 ** 9: FAR + 4}, [joins(5, "bit")])

    def test_a_first_day_of_nought(self):
        self.are_earned({1: 0, 30: 0, 31: 1}, [joins(0, "hand")])

    def test_never(self):
        pages = [joins(5, "hand"), leaves(9)]
        self.are_earned({119: 8, 120: 8, 121: None, MOST: None}, pages)
        self.are_earned({1: None}, [("fine", "ann", 5, 1)])
        self.are_earned({120: 8, 121: None}, [joins(5, "hand"), ("lost", 10, 8)])
        self.are_earned({1: None}, [joins(5, "hand"), ("lost", 10, 4)])
        self.are_earned({1: None}, [joins(5, "hand"), leaves(9), away(0, 8)])

    def test_a_fraction_below_the_sum_is_not_it(self):
        self.are_earned({1: 7, 2: None}, [joins(5, "third"), leaves(10)])
        self.are_earned({1: None}, [joins(5, "third"), leaves(7)])
        self.are_earned({1: 7}, [joins(5, "third"), leaves(8)])

    def test_a_rank_that_earns_nothing(self):
        self.are_earned({1: None, MOST: None}, [joins(5, "boy")])
        self.are_earned({1: 9, 30: 9, 31: 10}, [joins(5, "boy"), ranked(9)])
        self.are_earned({30: 5, 31: 12, 61: 13}, [joins(5, "hand"), ranked(6, "boy"), ranked(12)])
        self.are_earned({30: 5, 31: None}, [joins(5, "hand"), ranked(6, "boy")])
        self.are_earned({30: 5, 31: 12}, [joins(5, "hand"), leaves(6), joins(8, "boy"), leaves(10), joins(12, "hand")])

    def test_over_several_stretches(self):
        # 120 at the 8th, 120 + 240/7 at the 13th, then a third by the day.
        pages = [joins(5, "hand"), leaves(9), joins(12), leaves(14), joins(20, "third")]
        self.are_earned({120: 8, 121: 12, 137: 12, 138: 13, 154: 13, 155: 22, 156: 25}, pages)

    def test_thirds_of_several_stretches(self):
        pages = [joins(5, "third"), leaves(6), joins(7, "third"), leaves(8), joins(9, "third"), leaves(10)]
        self.are_earned({1: 9, 2: None}, pages)

    def test_over_days_away(self):
        self.are_earned({60: 6, 61: 9, 90: 9}, [joins(5, "hand"), away(7, 8)])
        self.are_earned({60: 6, 61: FAR + 1, 91: FAR + 2}, [joins(5, "hand"), away(7, FAR)])

    def test_sums_of_twenty_figures(self):
        self.are_earned({MOST: 10 ** 11 - 1, 10 ** 19: 10 ** 10 - 1, 10 ** 19 + 1: 10 ** 10}, [joins(0, "rich")])
        self.are_earned({MOST: 1000 * MOST - 1}, [joins(0, "bit")])
        self.are_earned({MOST: FAR + 3 * MOST - 1}, [joins(FAR, "third")])

    def test_no_sum(self):
        for pages in ([joins(5)], [("fine", "ann", 5, 1)]):
            for pence in (0, -1, -30, -MOST):
                with self.subTest(pence=pence), self.assertRaises(NoSum):
                    when_earned(PAID, pages, "ann", pence)
                with self.subTest(pence=pence), self.assertRaises(NoSum):
                    when_earned(pence=pence, man="ann", pages=pages, articles=PAID)

    def test_no_sum_behind_the_others(self):
        for pence in (0, -1, -MOST):
            with self.assertRaises(NoMan):
                when_earned(PAID, [joins(5)], "bob", pence)
            with self.assertRaises(Faulty):
                when_earned(PAID, [leaves(5)], "ann", pence)
            with self.assertRaises(Faulty):
                when_earned(PAID, [joins(5), ("lost", 9, 8), ("lost", 9, 7)], "ann", pence)

    def test_just_the_first_day(self):
        for seed in range(60):
            articles, pages = random_book(seed)
            for man in ("ann", "bob"):
                if man not in SlowBook(articles, pages).names() or SlowBook(articles, pages).faults_for(man):
                    continue
                for pence in (1, 2, 7, 30, 100, 481, 1000, 10 ** 15):
                    day = when_earned(articles, pages, man, pence)
                    if day is None:
                        self.assertLess(fractions.Fraction(*earned(articles, pages, man, MOST)), pence)
                    else:
                        self.assertGreaterEqual(fractions.Fraction(*earned(articles, pages, man, day)), pence)
                        self.assertLess(fractions.Fraction(*earned(articles, pages, man, day - 1)), pence)


class Had(Telling):
    def are_had(self, wanted, pages, articles=PAID):
        self.are_told(had, wanted, pages, articles)

    def test_each_in_its_place(self):
        none = (0, 0, 0, 0)
        self.are_had({4: none, 5: (7, 0, 0, 0), MOST: (7, 0, 0, 0)}, [("advance", "ann", 5, 7, "owner")])
        self.are_had({4: none, 5: (0, 7, 0, 0), MOST: (0, 7, 0, 0)}, [joins(1), home(5, 7)])
        self.are_had({4: none, 5: (0, 0, 7, 0), MOST: (0, 0, 7, 0)}, [("slops", "ann", 5, 7, "purser")])
        self.are_had({4: none, 5: (0, 0, 0, 7), MOST: (0, 0, 0, 7)}, [("fine", "ann", 5, 7)])

    def test_nothing(self):
        self.are_had({-1: (0, 0, 0, 0), 5: (0, 0, 0, 0), MOST: (0, 0, 0, 0)}, [joins(5)])

    def test_several_on_one_day_and_several_days(self):
        pages = [joins(1), ("advance", "ann", 5, 1, "owner"), ("advance", "ann", 5, 1, "kin"), ("advance", "ann", 6, 2, "kin"),
                 ("slops", "ann", 5, 10, "purser"), ("slops", "ann", 5, 20, "purser"), ("slops", "ann", 7, 30, "purser"),
                 ("fine", "ann", 5, 100), ("fine", "ann", 5, 200), ("fine", "ann", 8, 300),
                 home(5, 1000), home(5, 1000, bearer="aunt"), home(5, 2000), home(9, 3000)]
        self.are_had({4: (0, 0, 0, 0), 5: (2, 4000, 30, 300), 6: (4, 4000, 30, 300), 7: (4, 4000, 60, 300),
                      8: (4, 4000, 60, 600), 9: (4, 7000, 60, 600), MOST: (4, 7000, 60, 600)}, pages)

    def test_on_days_off_the_books(self):
        pages = [("advance", "ann", 0, 1, "owner"), ("slops", "ann", 20, 2, "purser"), ("fine", "ann", FAR, 3), joins(5), leaves(9)]
        self.are_had({-1: (0, 0, 0, 0), 0: (1, 0, 0, 0), 19: (1, 0, 0, 0), 20: (1, 0, 2, 0), FAR: (1, 0, 2, 3)}, pages)
        self.are_had({FAR: (1, 0, 2, 3)}, pages[:3])

    def test_behind_a_lost_ship_and_away(self):
        pages = [("advance", "ann", 50, 1, "owner"), ("slops", "ann", 50, 2, "purser"), ("fine", "ann", 50, 3), joins(5)]
        self.are_had({49: (0, 0, 0, 0), 50: (1, 0, 2, 3)}, pages + [("lost", 9, 8)])
        self.are_had({49: (0, 0, 0, 0), 50: (1, 0, 2, 3)}, pages + [away(40, 60)])

    def test_below_nought_and_far_behind(self):
        pages = [joins(0), home(0, 5, 3), ("fine", "ann", 0, 1)]
        self.are_had({-1: (0, 0, 0, 0), -28: (0, 0, 0, 0), -FAR: (0, 0, 0, 0), -MOST: (0, 0, 0, 0), 0: (0, 5, 0, 1),
                      FAR: (0, 15, 0, 1), MOST: (0, 15, 0, 1)}, pages)

    def test_sent_month_by_month(self):
        self.are_had({4: (0, 0, 0, 0), 5: (0, 7, 0, 0), 32: (0, 7, 0, 0), 33: (0, 14, 0, 0), 60: (0, 14, 0, 0), 61: (0, 21, 0, 0),
                      89: (0, 21, 0, 0), MOST: (0, 21, 0, 0)}, [joins(0), home(5, 7, 3)])

    def test_sent_on_days_on_the_books_alone(self):
        # Sent on 5, 15, 25, .., 95, were he always on the books.
        pages = [home(5, 1, 10)]
        ten = by_month(10)
        self.are_had({MOST: (0, 0, 0, 0)}, pages, ten)
        self.are_had({MOST: (0, 10, 0, 0)}, pages + [joins(0)], ten)
        self.are_had({MOST: (0, 10, 0, 0)}, pages + [joins(5)], ten)
        self.are_had({5: (0, 0, 0, 0), 14: (0, 0, 0, 0), 15: (0, 1, 0, 0), MOST: (0, 9, 0, 0)}, pages + [joins(6)], ten)
        self.are_had({94: (0, 0, 0, 0), 95: (0, 1, 0, 0), MOST: (0, 1, 0, 0)}, pages + [joins(86)], ten)
        self.are_had({MOST: (0, 1, 0, 0)}, pages + [joins(95)], ten)
        self.are_had({MOST: (0, 0, 0, 0)}, pages + [joins(96)], ten)
        self.are_had({MOST: (0, 3, 0, 0)}, pages + [joins(0), leaves(35)], ten)
        self.are_had({MOST: (0, 4, 0, 0)}, pages + [joins(0), leaves(36)], ten)
        self.are_had({MOST: (0, 0, 0, 0)}, pages + [joins(6), leaves(15)], ten)
        self.are_had({MOST: (0, 1, 0, 0)}, pages + [joins(6), leaves(16)], ten)
        self.are_had({25: (0, 3, 0, 0), 74: (0, 3, 0, 0), 75: (0, 4, 0, 0), MOST: (0, 6, 0, 0)},
                     pages + [joins(0), leaves(30), joins(66)], ten)

    def test_sent_while_away(self):
        self.are_had({5: (0, 7, 0, 0), MOST: (0, 21, 0, 0)}, [joins(0), home(5, 7, 3), away(0, FAR)])

    def test_sent_up_to_a_lost_ships_day(self):
        pages = [joins(0), home(5, 1, 10)]
        for to in (0, 4, 5, 34):
            self.are_had({MOST: (0, 3, 0, 0)}, pages + [("lost", 34, to)], by_month(10))
            self.are_had({34: (0, 3, 0, 0), 35: (0, 4, 0, 0), MOST: (0, 4, 0, 0)}, pages + [("lost", 35, to)], by_month(10))
        self.are_had({MOST: (0, 0, 0, 0)}, pages + [("lost", 4, 4)], by_month(10))
        self.are_had({MOST: (0, 10, 0, 0)}, pages + [("lost", 95, 0)], by_month(10))
        self.are_had({MOST: (0, 1, 0, 0)}, [home(5, 1, 10), joins(5), leaves(9), joins(20), ("lost", 12, 0)], by_month(10))

    def test_a_million_times(self):
        many = 10 ** 6
        self.are_had({0: (0, 1, 0, 0), many - 2: (0, many - 1, 0, 0), many - 1: (0, many, 0, 0), MOST: (0, many, 0, 0)},
                     [joins(0), home(0, 1, many)], by_month(1))
        last = FAR + 1000 * (many - 1)
        self.are_had({FAR: (0, 10 ** 9, 0, 0), last - 1: (0, 10 ** 9 * (many - 1), 0, 0), last: (0, 10 ** 15, 0, 0)},
                     [joins(0), home(FAR, 10 ** 9, many)], by_month(1000))
        self.are_had({MOST: (0, 499, 0, 0)}, [joins(500), home(0, 1, many), leaves(999)], by_month(1))

    def test_arguments_by_name(self):
        self.assertEqual(had(day=5, man="ann", pages=[("fine", "ann", 5, 7)], articles=PAID), (0, 0, 0, 7))

    def test_other_men(self):
        pages = [joins(1), home(5, 7), ("fine", "bob", 5, 1), home(5, 9, man="bob"), joins(1, man="bob"), leaves(3, "cid")]
        self.are_had({5: (0, 7, 0, 0)}, pages)
        self.are_had({5: (0, 7, 0, 0)}, pages + [("slops", "bob", 5, 1, "kin"), ("advance", "bob", 5, 1, "ann")])


class Sent(Telling):
    def are_sent(self, wanted, pages, articles=PAID):
        self.are_told(sent_on, wanted, pages, articles)

    def are_next(self, wanted, pages, articles=PAID):
        self.are_told(next_sent, wanted, pages, articles)

    def test_once(self):
        self.are_sent({-1: 0, 0: 0, 4: 0, 5: 7, 6: 0, 33: 0, MOST: 0, -MOST: 0}, [joins(0), home(5, 7)])
        self.are_next({-MOST: 5, -1: 5, 0: 5, 4: 5, 5: 5, 6: None, MOST: None}, [joins(0), home(5, 7)])

    def test_month_by_month(self):
        pages = [joins(0), home(5, 7, 3)]
        self.are_sent({4: 0, 5: 7, 6: 0, 32: 0, 33: 7, 34: 0, 61: 7, 89: 0}, pages)
        self.are_next({0: 5, 5: 5, 6: 33, 33: 33, 34: 61, 61: 61, 62: None}, pages)

    def test_never(self):
        for pages in ([joins(0)], [home(5, 7, 3)], [joins(0), home(5, 7, 3), leaves(5)], [joins(62), home(5, 7, 3)],
                      [joins(0), ("slops", "ann", 5, 7, "kin"), ("advance", "ann", 5, 7, "kin"), ("fine", "ann", 5, 7)],
                      [joins(0), joins(0, man="bob"), home(5, 7, 3, man="bob"), away(1, 1)]):
            self.are_sent({-23: 0, 5: 0, 33: 0, 61: 0}, pages)
            self.are_next({-MOST: None, 0: None, 5: None, MOST: None}, pages)

    def test_nothing_ahead_of_the_first_day(self):
        pages = [joins(0), home(30, 7, 3)]
        self.are_sent({2: 0, 30: 7, 58: 7, 86: 7, 114: 0}, pages)
        self.are_next({2: 30, 31: 58, 87: None}, pages)

    def test_several_on_one_day(self):
        pages = [joins(0), home(5, 7), home(5, 7, bearer="aunt"), home(5, 9, 2), home(33, 100), home(6, 1000, 1)]
        self.are_sent({5: 23, 6: 1000, 33: 109, 34: 0}, pages)
        self.are_next({0: 5, 6: 6, 7: 33, 34: None}, pages)

    def test_on_days_on_the_books_alone(self):
        pages = [home(5, 7, 10), joins(10), leaves(25), joins(40), leaves(66), joins(85)]
        self.are_sent({5: 0, 15: 7, 25: 0, 35: 0, 45: 7, 55: 7, 65: 7, 75: 0, 85: 7, 95: 7, 105: 0}, pages, by_month(10))
        self.are_next({0: 15, 15: 15, 16: 45, 46: 55, 66: 85, 86: 95, 95: 95, 96: None}, pages, by_month(10))

    def test_on_the_first_and_the_last_day_on_the_books(self):
        self.are_sent({5: 7}, [joins(5), home(5, 7), leaves(6)])
        self.are_sent({5: 0}, [joins(6), home(5, 7)])
        self.are_sent({5: 0}, [joins(4), home(5, 7), leaves(5)])

    def test_away(self):
        self.are_sent({5: 7, 33: 7}, [joins(0), home(5, 7, 3), away(0, 40)])
        self.are_next({0: 5, 6: 33}, [joins(0), home(5, 7, 3), away(0, 40)])

    def test_lost(self):
        pages = [joins(0), home(5, 7, 3)]
        self.are_sent({5: 7, 33: 7, 61: 0}, pages + [("lost", 33, 0)])
        self.are_sent({5: 7, 33: 0, 61: 0}, pages + [("lost", 32, 32)])
        self.are_next({6: 33, 34: None}, pages + [("lost", 33, 0)])
        self.are_next({5: 5, 6: None}, pages + [("lost", 32, 32)])
        self.are_next({0: None}, pages + [("lost", 4, 4)])

    def test_months_of_one_and_of_a_thousand_days(self):
        many = 10 ** 6
        pages = [joins(0), home(5, 7, many)]
        self.are_sent({4: 0, 5: 7, 6: 7, many + 4: 7, many + 5: 0}, pages, by_month(1))
        self.are_next({0: 5, 77: 77, many + 4: many + 4, many + 5: None}, pages, by_month(1))
        last = 5 + 1000 * (many - 1)
        self.are_sent({5: 7, 6: 0, 1005: 7, last - 1: 0, last: 7, last + 1000: 0}, pages, by_month(1000))
        self.are_next({6: 1005, 1005: 1005, last - 999: last, last: last, last + 1: None}, pages, by_month(1000))

    def test_far_days(self):
        last = FAR + 1000 * (10 ** 6 - 1)
        pages = [joins(FAR), home(FAR, 7, 10 ** 6)]
        self.are_sent({FAR - 1: 0, FAR: 7, FAR + 1: 0, last: 7, last + 1000: 0, MOST: 0}, pages, by_month(1000))
        self.are_next({-MOST: FAR, FAR + 1: FAR + 1000, last: last, last + 1: None, MOST: None}, pages, by_month(1000))

    def test_arguments_by_name(self):
        self.assertEqual(sent_on(day=5, man="ann", pages=[joins(0), home(5, 7)], articles=PAID), 7)
        self.assertEqual(next_sent(day=1, man="ann", pages=[joins(0), home(5, 7)], articles=PAID), 5)


class Left(Telling):
    def are_left(self, wanted, pages):
        self.are_told(left, wanted, pages)

    def test_above_at_and_below_nought(self):
        pages = [joins(5, "hand"), home(6, 60), ("fine", "ann", 8, 70)]
        self.are_left({-1: 0, 4: 0, 5: 30, 6: 0, 7: 30, 8: -10, 9: 20}, pages)

    def test_the_whole_part_of_what_is_earned(self):
        # 120/7 by the day: 17.1.., 34.2.., 51.4.., 68.5.., 85.7.., 102.8.., 120.
        self.are_left({5: 17, 6: 34, 7: 51, 8: 68, 9: 85, 10: 102, 11: 120}, [joins(5)])
        fined = [joins(5), ("fine", "ann", 5, 20)]
        self.are_left({5: -3, 6: 14, 7: 31, 8: 48, 9: 65, 10: 82, 11: 100}, fined)
        self.are_left({5: 0, 6: 17}, [joins(5), ("fine", "ann", 5, 17)])
        self.are_left({5: -1, 6: 16}, [joins(5), ("fine", "ann", 5, 18)])

    def test_fractions_of_several_ranks_together(self):
        self.are_left({5: 0, 6: 0, 7: 1}, [joins(5, "third")])
        # Thirds ahead of and behind a gap come to a penny.
        self.are_left({6: 0, 8: 0, 9: 1}, [joins(5, "third"), leaves(7), joins(9, "third")])

    def test_all_four(self):
        pages = [joins(5, "hand"), ("advance", "ann", 5, 1, "owner"), home(5, 2), ("slops", "ann", 5, 4, "purser"), ("fine", "ann", 5, 8)]
        self.are_left({5: 15, 6: 45}, pages)

    def test_off_the_books(self):
        self.are_left({4: 0, 5: -7, MOST: -7}, [("slops", "ann", 5, 7, "purser")])
        self.are_left({4: -7, 5: 23, 6: 23, MOST: 23}, [("advance", "ann", 0, 7, "owner"), joins(5, "hand"), leaves(6)])

    def test_month_by_month(self):
        pages = [joins(0, "hand"), home(0, 900, 3), ("lost", 40, 35)]
        self.are_left({0: -870, 27: -60, 28: -930, 35: -720, 40: -720, MOST: -720}, pages)

    def test_great(self):
        self.are_left({MOST: 10 ** 9 * 10 ** 20 - 10 ** 15}, [joins(0, "rich"), home(0, 10 ** 9, 10 ** 6)])
        self.are_left({MOST: 33333333333333333333, -MOST: 0}, [joins(0, "third")])
        self.are_left({FAR + 28 * 10 ** 6: -(10 ** 15)}, [joins(FAR, "boy"), home(FAR, 10 ** 9, 10 ** 6)])

    def test_arguments_by_name(self):
        self.assertEqual(left(day=6, man="ann", pages=[joins(5)], articles=PAID), 34)


class AsTheSlowBook(unittest.TestCase):
    def next_day(self, sent, day):
        return next((at for at, pence in enumerate(sent) if at >= day and pence > 0), None)

    def is_as_told(self, articles, pages, man, day, told):
        self.assertEqual(fractions.Fraction(*earned(articles, pages, man, day)), told.earned[day])
        self.assertEqual(had(articles, pages, man, day), told.had[day])
        self.assertEqual(sent_on(articles, pages, man, day), told.sent[day])
        self.assertEqual(next_sent(articles, pages, man, day), self.next_day(told.sent, day))
        self.assertEqual(left(articles, pages, man, day), told.left[day])

    def test_days_and_sums(self):
        sound = 0
        for seed in range(120):
            chance = random.Random(seed)
            articles, pages = random_book(seed)
            slow = SlowBook(articles, pages)
            for man in slow.names():
                if slow.faults_for(man):
                    continue
                sound += 1
                told = slow.tell(man)
                for day in chance.sample(range(45), 12) + [HORIZON - 1]:
                    with self.subTest(seed=seed, man=man, day=day):
                        self.is_as_told(articles, pages, man, day, told)
        self.assertGreater(sound, 100)

    def test_first_days_of_sums(self):
        for seed in range(120, 200):
            articles, pages = random_book(seed)
            slow = SlowBook(articles, pages)
            for man in slow.names():
                if not slow.faults_for(man):
                    total = slow.tell(man).earned
                    for pence in {1, 2, int(total[20]), int(total[20]) + 1, int(total[-1])} - {0}:
                        wanted = next((day for day, sum_to in enumerate(total) if sum_to >= pence), None)
                        if wanted is not None:
                            self.assertEqual(when_earned(articles, pages, man, pence), wanted, (seed, man, pence))


if __name__ == "__main__":
    unittest.main()
