"""Paid off, and by whom the rest is borne: point 12."""

import random
import unittest

from crewpay.errors import Faulty, NoMan
from crewpay.fractions import whole_part
from crewpay.ledgers import earned, had, left
from crewpay.payoff import paid_off
from helpers import (
    CHESTS, FAR, HORIZON, LETTERS, MOST, SlowBook, advance, away, fine, home, in_orders, joins, leaves, long_book,
    random_book, ranked, slops, steps,
)

# By the day: boy nothing, hand 30, mate 120/7, rich 10 ** 9.
PAID = ((("boy", 0, 1), ("hand", 30, 1), ("mate", 480, 28), ("rich", 10 ** 9, 1)), CHESTS, 10)
MANY = 10 ** 6


def by_month(month):
    return PAID[:2] + (month,)


class PaidOff(unittest.TestCase):
    def are_paid(self, wanted, pages, articles=PAID):
        """wanted tells what is told at each day that is asked for."""
        for book in in_orders(pages):
            for day, answer in wanted.items():
                with self.subTest(day=day, book=book):
                    given = paid_off(articles, book, "ann", day)
                    self.assertEqual(given, answer)
                    self.assertEqual([type(part) for part in given], [int, int, list])

    def test_nothing_had(self):
        self.are_paid({-1: (0, 0, []), 4: (0, 0, []), 5: (17, 0, []), 6: (34, 0, []), 11: (120, 0, [])}, [joins(5)])

    def test_wages_that_meet_all(self):
        pages = [joins(0, "hand"), advance(0, 10), home(2, 30), slops(1, 20), fine(2, 5)]
        self.are_paid({0: (20, 0, []), 1: (30, 0, []), 2: (25, 0, []), 3: (55, 0, [])}, pages)
        self.are_paid({2: (0, 0, []), 3: (30, 0, [])}, [joins(0, "hand"), advance(0, 90)])

    def test_wages_that_meet_a_part(self):
        self.are_paid({0: (0, 0, [("owner", 60)]), 1: (0, 0, [("owner", 30)]), 2: (0, 0, [])}, [joins(0, "hand"), advance(0, 90)])
        self.are_paid({2: (0, 0, [("owner", 1)])}, [joins(0, "hand"), advance(0, 91)])

    def test_wages_that_meet_nothing(self):
        pages = [joins(0, "boy"), advance(0, 10), home(2, 30), slops(1, 20)]
        self.are_paid({0: (0, 0, [("owner", 10)]), 1: (0, 0, [("owner", 10), ("purser", 20)]),
                       2: (0, 0, [("kin", 30), ("owner", 10), ("purser", 20)])}, pages)
        self.are_paid({5: (0, 0, [("owner", 10)])}, [advance(5, 10)])

    def test_fines_first(self):
        # 60 earned: fines are met ahead of what was had earlier.
        self.are_paid({1: (0, 0, [("owner", 20)])}, [joins(0, "hand"), advance(0, 30), fine(1, 50)])
        self.are_paid({1: (0, 0, [("owner", 30)])}, [joins(0, "hand"), advance(0, 30), fine(1, 60)])
        self.are_paid({1: (0, 1, [("owner", 30)])}, [joins(0, "hand"), advance(0, 30), fine(1, 61)])
        self.are_paid({1: (0, 40, [("owner", 30)])}, [joins(0, "hand"), advance(0, 30), fine(1, 61), fine(0, 39)])

    def test_fines_not_met_and_just_met(self):
        self.are_paid({0: (0, 30, []), 1: (0, 0, []), 2: (30, 0, [])}, [joins(0, "hand"), fine(0, 60)])
        self.are_paid({5: (0, 7, [])}, [fine(5, 7)])
        # Of 17.1.. only the whole part is paid.
        self.are_paid({5: (0, 0, [])}, [joins(5), fine(5, 17)])
        self.are_paid({5: (0, 1, [])}, [joins(5), fine(5, 18)])

    def test_nothing_of_later_days(self):
        pages = [joins(0, "hand"), fine(5, 10 ** 6), advance(5, 10 ** 6), slops(5, 10 ** 6), home(5, 10 ** 6)]
        self.are_paid({4: (150, 0, [])}, pages)
        self.are_paid({5: (0, 10 ** 6 - 180, [("kin", 10 ** 6), ("owner", 10 ** 6), ("purser", 10 ** 6)])}, pages)

    def test_the_order_by_days(self):
        pages = [joins(0, "hand"), ranked(1, "boy"), slops(3, 20, "aa"), home(4, 20, bearer="bb"), advance(5, 20, "cc")]
        self.are_paid({3: (10, 0, []), 4: (0, 0, [("bb", 10)]), 5: (0, 0, [("bb", 10), ("cc", 20)])}, pages)
        pages = [joins(0, "hand"), ranked(1, "boy"), advance(3, 20, "cc"), slops(2, 20, "aa")]
        self.are_paid({3: (0, 0, [("cc", 10)])}, pages)

    def test_of_one_day_by_words(self):
        pages = [joins(0, "hand"), ranked(1, "boy"), slops(3, 1, "aa"), home(3, 20, bearer="bb"), advance(3, 30, "cc")]
        self.are_paid({3: (0, 0, [("aa", 1), ("bb", 20)])}, pages)
        pages[4] = advance(3, 15, "cc")
        self.are_paid({3: (0, 0, [("aa", 1), ("bb", 5)])}, pages)
        pages[4] = advance(3, 10, "cc")
        self.are_paid({3: (0, 0, [("aa", 1)])}, pages)
        pages[4] = advance(3, 9, "cc")
        self.are_paid({3: (0, 0, [])}, pages)

    def test_of_one_word_by_pence_then_by_bearers(self):
        for make in (advance, slops, lambda day, pence, bearer: home(day, pence, bearer=bearer)):
            pages = [joins(0, "hand"), ranked(1, "boy"), make(3, 11, "aa"), make(3, 10, "bb")]
            self.are_paid({3: (9, 0, [])}, pages)
            pages = [joins(0, "hand"), ranked(1, "boy"), make(3, 21, "aa"), make(3, 10, "bb")]
            self.are_paid({3: (0, 0, [("aa", 1)])}, pages)
            pages = [joins(0, "hand"), ranked(1, "boy"), make(3, 9, "cc"), make(3, 20, "bb"), make(3, 20, "aa")]
            self.are_paid({3: (0, 0, [("bb", 19)])}, pages)
            pages = [joins(0, "hand"), ranked(1, "boy"), make(3, 100, "aa"), make(3, 99, "bb"), make(3, 98, "cc")]
            self.are_paid({3: (0, 0, [("aa", 100), ("bb", 99), ("cc", 68)])}, pages)

    def test_pence_are_of_each_page_by_itself(self):
        # Two pages of 20 by one bearer are each ahead of one of 30, though they come to more.
        pages = [joins(0, "hand"), ranked(2, "boy"), home(3, 20, 1, "bb"), home(3, 20, 2, "bb"), home(3, 30, 1, "aa")]
        self.are_paid({3: (0, 0, [("aa", 10)]), 13: (0, 0, [("aa", 10), ("bb", 20)])}, pages)

    def test_one_bearer_of_several_sums(self):
        pages = [joins(0, "hand"), ranked(1, "boy"), advance(3, 20, "kin"), slops(4, 20, "kin"), home(5, 20, 2, "kin"), slops(9, 7)]
        self.are_paid({3: (10, 0, []), 4: (0, 0, [("kin", 10)]), 5: (0, 0, [("kin", 30)]), 9: (0, 0, [("kin", 30), ("purser", 7)]),
                       15: (0, 0, [("kin", 50), ("purser", 7)])}, pages)

    def test_a_long_run(self):
        # 300 a month earned to 99, then nothing; 200 a month sent from 9 on: fifteen are met.
        pages = [joins(0, "hand"), ranked(100, "boy"), home(9, 200, 40)]
        self.are_paid({9: (100, 0, []), 99: (1000, 0, []), 149: (0, 0, []), 158: (0, 0, []), 159: (0, 0, [("kin", 200)]),
                       399: (0, 0, [("kin", 5000)]), 400: (0, 0, [("kin", 5000)]), MOST: (0, 0, [("kin", 5000)])}, pages)
        self.are_paid({MOST: (0, 0, [("kin", 4999 + 11)])}, [*pages, fine(MANY, 10)])

    def test_off_the_books_and_behind_a_lost_ship(self):
        pages = [joins(0, "boy"), home(9, 200, 40)]
        self.are_paid({MOST: (0, 0, [("kin", 400)])}, [*pages, leaves(20)])
        self.are_paid({MOST: (0, 0, [("kin", 600)])}, [*pages, leaves(20), joins(399, "boy")])
        self.are_paid({MOST: (0, 0, [("kin", 400)])}, [*pages, ("lost", 28, 0)])
        self.are_paid({MOST: (0, 0, [("kin", 600)])}, [*pages, ("lost", 29, 0), away(5, 50)])

    def test_two_runs_on_the_same_days(self):
        # Each day bb's 10 are met ahead of aa's 20: of 90 those of three days.
        pages = [joins(0, "hand"), ranked(3, "boy"), home(9, 20, 5, "aa"), home(9, 10, 5, "bb")]
        self.are_paid({29: (0, 0, []), 39: (0, 0, [("aa", 20), ("bb", 10)]), 49: (0, 0, [("aa", 40), ("bb", 20)])}, pages)
        self.are_paid({29: (0, 0, [("aa", 5)]), 49: (0, 0, [("aa", 45), ("bb", 20)])}, [*pages, fine(0, 5)])
        self.are_paid({29: (0, 0, [("aa", 20), ("bb", 1)])}, [*pages, fine(0, 21)])

    def test_two_runs_on_unlike_days(self):
        pages = [joins(0, "hand"), ranked(3, "boy"), home(9, 20, 5, "aa"), home(12, 10, 5, "bb")]
        self.are_paid({29: (10, 0, []), 32: (0, 0, []), 39: (0, 0, [("aa", 20)]), 52: (0, 0, [("aa", 40), ("bb", 20)])}, pages)
        self.are_paid({32: (0, 0, [("bb", 5)])}, [*pages, fine(0, 5)])
        self.are_paid({32: (0, 0, [("aa", 1), ("bb", 10)])}, [*pages, fine(0, 11)])

    def test_a_million_times(self):
        for month in (1, 1000):
            pages = [joins(0, "rich"), ranked(1, "boy"), home(5, 10 ** 9, MANY, "aa"), home(5, 10 ** 9, MANY, "bb"), slops(0, 1)]
            last = 5 + month * (MANY - 1)
            self.are_paid({0: (10 ** 9 - 1, 0, []), last - 1: (0, 0, [("aa", 10 ** 9 * (MANY - 2) + 1), ("bb", 10 ** 9 * (MANY - 1))]),
                           last: (0, 0, [("aa", 10 ** 9 * (MANY - 1) + 1), ("bb", 10 ** 15)])}, pages, by_month(month))
            # 30 * MANY earned, and 31 * MANY sent: of the sending that is number 967742 only 29 are met.
            pages = [joins(0, "hand"), ranked(MANY, "boy"), home(0, 31, MANY)]
            want = 967741 * month
            self.are_paid({MOST: (0, 0, [("kin", MANY)])}, pages, by_month(month))
            self.are_paid({MOST: (0, 0, [("kin", MANY + 1)])}, [*pages, slops(want - 1, 1)], by_month(month))
            self.are_paid({MOST: (0, 0, [("kin", MANY + 1)])}, [*pages, advance(want, 1)], by_month(month))
            self.are_paid({MOST: (0, 0, [("kin", MANY), ("purser", 1)])}, [*pages, slops(want, 1)], by_month(month))

    def test_days_below_nought_and_far_behind(self):
        pages = [joins(0, "hand"), advance(0, 31), fine(0, 1)]
        self.are_paid({-1: (0, 0, []), -FAR: (0, 0, []), -MOST: (0, 0, []), 0: (0, 0, [("owner", 2)])}, pages)
        self.are_paid({MOST: (30 * (MOST + 1) - 32, 0, []), 10 ** 19: (30 * (10 ** 19 + 1) - 32, 0, [])}, pages)
        self.are_paid({MOST: (0, 0, [("kin", 10 ** 15)])}, [joins(FAR, "boy"), home(FAR, 10 ** 9, MANY)], by_month(1000))

    def test_other_men(self):
        pages = [joins(0, "hand"), advance(0, 20), joins(0, "hand", "bob"), ("fine", "bob", 0, 99), ("slops", "bob", 0, 99, "owner")]
        self.are_paid({0: (10, 0, [])}, pages + [home(0, 9, 9, man="bob"), leaves(3, "cid")])

    def test_refusals(self):
        with self.assertRaises(NoMan):
            paid_off(PAID, [joins(5), ("lost", 1, 1), ("lost", 2, 1)], "bob", 5)
        with self.assertRaises(Faulty) as caught:
            paid_off(PAID, [joins(5), leaves(5)], "ann", 5)
        self.assertEqual(caught.exception.faults, (("ann", 5, "two"),))

    def test_arguments_by_name(self):
        self.assertEqual(paid_off(day=6, man="ann", pages=[joins(5), advance(0, 35)], articles=PAID), (0, 0, [("owner", 1)]))

    def test_the_list_is_the_askers_own(self):
        pages = [advance(5, 10), slops(6, 20)]
        first, other = paid_off(PAID, pages, "ann", 9), paid_off(PAID, pages, "ann", 9)
        first[2].clear()
        self.assertEqual(other, (0, 0, [("owner", 10), ("purser", 20)]))
        other[2].append("more")
        self.assertEqual(paid_off(PAID, pages, "ann", 9), (0, 0, [("owner", 10), ("purser", 20)]))
        empty = paid_off(PAID, pages, "ann", 0)
        empty[2].append("more")
        self.assertEqual(paid_off(PAID, pages, "ann", 0), (0, 0, []))


class AsTheSlowBook(unittest.TestCase):
    def is_sound(self, articles, pages, man, day, told):
        """What is promised of every answer: the told list, and the sums that come to one another."""
        paid, put_up, borne = told
        bearers = [row[0] for row in borne]
        self.assertEqual(bearers, sorted(set(bearers)))
        self.assertTrue(all(row[1] > 0 for row in borne) and paid >= 0 and put_up >= 0)
        advances, sent, slop, fines = had(articles, pages, man, day)
        wages = whole_part(earned(articles, pages, man, day))
        rest = sum(row[1] for row in borne)
        self.assertEqual(paid + (fines - put_up) + (advances + sent + slop - rest), wages)
        self.assertEqual(paid - put_up - rest, left(articles, pages, man, day))
        self.assertTrue(paid == 0 or (put_up == 0 and borne == []))

    def test_small_books(self):
        sound = 0
        for seed in range(150):
            articles, pages = random_book(seed)
            slow = SlowBook(articles, pages)
            for man in slow.names():
                if slow.faults_for(man):
                    continue
                sound += 1
                told = slow.tell(man)
                for day in random.Random(seed).sample(range(60), 10) + [HORIZON - 1]:
                    with self.subTest(seed=seed, man=man, day=day):
                        given = paid_off(articles, pages, man, day)
                        self.assertEqual(given, slow.paid_off(man, day, told))
                        self.is_sound(articles, pages, man, day, given)
        self.assertGreater(sound, 200)

    def test_long_runs(self):
        for seed in range(60):
            articles, pages = long_book(seed)
            slow = SlowBook(articles, pages, 1000)
            told = slow.tell("ann")
            for day in random.Random(seed).sample(range(1000), 10) + [999]:
                with self.subTest(seed=seed, day=day):
                    given = paid_off(articles, pages, "ann", day)
                    self.assertEqual(given, slow.paid_off("ann", day, told))
                    self.is_sound(articles, pages, "ann", day, given)


class FewSteps(unittest.TestCase):
    def test_however_great_days_and_times_are(self):
        for month in (1, 1000):
            for day in (0, 10 ** 11, FAR):
                pages = [joins(0, "hand"), ranked(MANY, "boy"), advance(day, 1)]
                pages += [home(max(0, day - at), 10 ** 9, MANY, "kin" + LETTERS[at]) for at in range(9)]
                steps(10 ** 4, paid_off, by_month(month), pages, "ann", MOST)


if __name__ == "__main__":
    unittest.main()
