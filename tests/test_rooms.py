"""Rooms and the first day over: point 11."""

import random
import unittest

from crewpay.errors import Faulty, NoMan
from crewpay.ledgers import left, next_sent
from crewpay.rooms import first_over, room
from helpers import (
    CHESTS, FAR, HORIZON, MOST, SlowBook, advance, away, fine, home, in_orders, joins, leaves, long_book, random_book,
    ranked, slops, steps,
)

# By the day: bit 1/1000, boy nothing, hand 30, mate 120/7, rich 10 ** 9, third 1/3.
PAID = (
    (("bit", 1, 1000), ("boy", 0, 1), ("hand", 30, 1), ("mate", 480, 28), ("rich", 10 ** 9, 1), ("third", 1, 3)),
    CHESTS, 10,
)
MANY = 10 ** 6


def by_month(month):
    return PAID[:2] + (month,)


class Rooms(unittest.TestCase):
    def are_rooms(self, wanted, pages, articles=PAID):
        """wanted tells the room at each day that is asked for."""
        for book in in_orders(pages):
            for day, answer in wanted.items():
                with self.subTest(day=day, book=book):
                    given = room(articles, book, "ann", day)
                    self.assertEqual(given, answer)
                    self.assertIs(type(given), int)

    def test_the_day_itself_where_nothing_is_drawn_behind(self):
        self.are_rooms({5: 30, 6: 60, 8: 120, FAR: 30 * (FAR - 4)}, [joins(5, "hand")])
        self.are_rooms({5: 0, 6: 0, 7: 1, 9: 1, 10: 2}, [joins(5, "third")])
        # 17.1.., 34.2.., 51.4..: the whole part of what is earned.
        self.are_rooms({5: 17, 6: 34, 7: 51}, [joins(5)])
        self.are_rooms({7: 30, 8: 60, 9: 90}, [joins(5, "hand"), home(7, 60)])

    def test_off_the_books(self):
        pages = [joins(5, "hand"), leaves(8), joins(11, "hand"), leaves(12)]
        self.are_rooms({-5: 0, 0: 0, 4: 0, 5: 30, 7: 90, 8: 0, 10: 0, 11: 120, 12: 0, MOST: 0}, pages)
        self.are_rooms({0: 0, 5: 0, MOST: 0}, [fine(3, 5)])

    def test_away_he_is_on_the_books(self):
        self.are_rooms({5: 30, 6: 60, 7: 60, 8: 60, 9: 90}, [joins(5, "hand"), away(7, 8)])

    def test_on_ahead_of_and_behind_a_lost_ships_day(self):
        pages = [joins(5, "hand"), ("lost", 9, 7)]
        self.are_rooms({5: 30, 7: 90, 8: 90, 9: 90, 10: 0, FAR: 0, MOST: 0}, pages)
        self.are_rooms({0: 0, 5: 0, 9: 0}, [joins(5, "hand"), ("lost", 4, 4)])
        self.are_rooms({4: 0, 5: 30, 6: 0}, [joins(5, "hand"), ("lost", 5, 5)])
        # A joining behind that day is on the books, and yet the ship was lost ahead of it.
        self.are_rooms({5: 30, 9: 0, 12: 0}, [joins(5, "hand"), leaves(8), joins(12, "hand"), ("lost", 9, 7)])

    def test_a_sending_day_behind(self):
        pages = [joins(5, "hand"), home(9, 100)]
        self.are_rooms({5: 30, 6: 50, 7: 50, 8: 50, 9: 50, 10: 80}, pages)
        self.are_rooms({5: 1, 6: 1, 8: 1, 9: 1, 10: 31}, [joins(5, "hand"), home(9, 149)])
        self.are_rooms({5: 0, 8: 0, 9: 0, 10: 30}, [joins(5, "hand"), home(9, 150)])

    def test_a_day_of_slops_behind(self):
        pages = [joins(5, "hand"), slops(9, 100)]
        self.are_rooms({5: 30, 6: 50, 8: 50, 9: 50, 10: 80}, pages)
        # Slops are drawn off the books, and behind a lost ship's day, too.
        self.are_rooms({5: 20, 6: 20, 7: 20, 8: 0, 20: 0}, [joins(5, "hand"), leaves(8), slops(20, 70)])
        self.are_rooms({5: 20, 7: 20, 8: 0}, [joins(5, "hand"), ("lost", 7, 7), slops(20, 70)])
        # What of a day of slops is sent, too, counts on that day.
        self.are_rooms({5: 30, 8: 40, 9: 40}, [joins(5, "hand"), slops(9, 100), home(9, 10)])

    def test_less_than_nought_left_later(self):
        self.are_rooms({5: 0, 8: 0, 9: 0, 10: 29}, [joins(5, "hand"), home(9, 151)])
        self.are_rooms({5: 0, 9: 0, 10: 29}, [joins(5, "hand"), slops(9, 151)])
        self.are_rooms({5: 0, 20: 0, 24: 0, 25: 20}, [joins(5, "hand"), home(24, 600), home(9, 10)])

    def test_less_than_nought_left_on_the_day(self):
        self.are_rooms({5: 0, 6: 0, 7: 20}, [joins(5, "hand"), fine(4, 70)])
        self.are_rooms({5: 30, 6: 0, 7: 20}, [joins(5, "hand"), advance(6, 70)])

    def test_less_left_on_days_that_are_no_drawing_days(self):
        # Below 0 on 6 alone, on which nothing is drawn.
        self.are_rooms({5: 30, 6: 0, 7: 20, 8: 50}, [joins(5, "hand"), fine(6, 70)])
        self.are_rooms({5: 10, 6: 0, 7: 10, 8: 40}, [joins(5, "hand"), fine(6, 70), home(7, 10)])
        self.are_rooms({5: 10, 6: 0, 7: 10, 8: 40}, [joins(5, "hand"), advance(6, 70), slops(7, 10)])

    def test_drawing_days_ahead_do_not_count(self):
        self.are_rooms({7: 0, 8: 10, 9: 40}, [joins(5, "hand"), home(6, 110)])
        self.are_rooms({7: 0, 8: 10, 9: 40}, [joins(5, "hand"), slops(6, 110)])

    def test_a_month_earns_more_than_is_sent(self):
        # 300 a month earned, 290 sent: the next sending is the least.
        pages = [joins(0, "hand"), home(9, 290, 50)]
        self.are_rooms({0: 10, 9: 10, 10: 20, 19: 20, 20: 30, 489: 490, 499: 500, 500: 530}, pages)

    def test_a_month_earns_as_much_as_is_sent(self):
        pages = [joins(0, "hand"), home(9, 300, 50)]
        self.are_rooms({0: 0, 9: 0, 10: 0, 498: 0, 499: 0, 500: 30}, pages)
        pages = [joins(0, "hand"), home(9, 290), home(19, 300, 49)]
        self.are_rooms({0: 10, 9: 10, 10: 10, 499: 10, 500: 40}, pages)

    def test_a_month_earns_less_than_is_sent(self):
        # 10 less each month: the last sending is the least.
        pages = [joins(0, "hand"), home(209, 310, 100)]
        last = 209 + 99 * 10
        wanted = 30 * (last + 1) - 31000
        self.assertEqual(wanted, 5000)
        self.are_rooms({0: 30, 100: 3030, 208: 5000, 209: 5000, 210: 5000, last: 5000, last + 1: 5030}, pages)

    def test_the_least_within_a_run_where_the_rank_changes(self):
        # 100 each 10 days; from 100 to 199 nothing is earned: of sixty the twentieth sending, on 199, is the least.
        pages = [joins(0, "hand"), home(9, 100, 60), ranked(100, "boy"), ranked(200, "hand")]
        self.are_rooms({0: 30, 9: 200, 50: 1000, 99: 1000, 100: 1000, 199: 1000, 200: 1030, 209: 1200}, pages)
        pages[1] = home(9, 150, 60)
        self.are_rooms({0: 0, 9: 0, 199: 0, 200: 30, 209: 150}, pages)
        # With 200 each time the fortieth, on 299, is the last one that is over.
        pages[1] = home(9, 200, 60)
        self.are_rooms({0: 0, 199: 0, 299: 0, 300: 30, 309: 100}, pages)

    def test_the_least_within_a_run_while_away(self):
        pages = [joins(0, "hand"), home(9, 100, 60), away(100, 199)]
        self.are_rooms({0: 30, 99: 1000, 100: 1000, 199: 1000, 200: 1030, 209: 1200}, pages)
        pages[2] = away(100, 198)
        self.are_rooms({189: 1030, 190: 1030, 198: 1030, 199: 1030, 200: 1060, 209: 1230}, pages)

    def test_the_least_within_a_run_where_a_lost_ships_pay_ends(self):
        # Pay ends at 99, sendings at 150: fifteen of them.
        pages = [joins(0, "hand"), home(9, 100, 60), ("lost", 150, 99)]
        self.are_rooms({0: 30, 99: 1500, 100: 1500, 140: 1500, 149: 1500, 150: 1500, 151: 0}, pages)
        pages[2] = ("lost", 148, 99)
        self.are_rooms({99: 1600, 139: 1600, 148: 1600, 149: 0}, pages)

    def test_the_least_where_he_leaves_and_joins(self):
        # Sixty sendings from 9 on: ten to 99, ten from 509 to 599, and off the books none.
        pages = [joins(0, "hand"), leaves(100), joins(500, "boy"), home(9, 140, 60)]
        self.are_rooms({0: 30, 9: 160, 19: 200, 29: 200, 99: 200, 100: 0, 500: 200, 599: 200, 600: 200}, pages)
        pages[3] = home(9, 150, 60)
        self.are_rooms({0: 0, 9: 0, 99: 0, 500: 0, 599: 0, 600: 0}, pages)

    def test_two_runs_together(self):
        # Together 310 a month, on 109 and 113 and so on: the last one of either.
        pages = [joins(0, "hand"), home(109, 200, 50), home(113, 110, 50)]
        one, other = 30 * 600 - 310 * 49 - 200, 30 * 604 - 310 * 50
        self.are_rooms({50: 1530, 108: one, 599: one, 600: other, 603: other, 604: other + 30}, pages)
        # Those of the one end earlier, on 303: the next one of the other one is the least.
        pages[2] = home(113, 110, 20)
        self.are_rooms({50: 1530, 108: 2900, 303: 2900, 309: 2900, 310: 2930, 319: 3000}, pages)

    def test_runs_on_the_same_days_one_of_which_ends_earlier(self):
        # 400 a month to 299, then 200: the least is on 299.
        pages = [joins(0, "hand"), home(109, 200, 90), home(109, 200, 20)]
        self.are_rooms({0: 30, 32: 990, 33: 1000, 99: 1000, 299: 1000, 300: 1030, 309: 1100}, pages)
        # By days: 10 less on each to 149, then 10 more.
        pages = [joins(0, "hand"), home(50, 20, 200), home(50, 20, 100, "aunt")]
        self.are_rooms({0: 30, 50: 500, 149: 500, 150: 510, 151: 520}, pages, by_month(1))

    def test_many_times(self):
        pages = [joins(0, "hand"), home(0, 29, MANY)]
        self.are_rooms({0: 1, 1: 2, MANY - 1: MANY, MANY: MANY + 30}, pages, by_month(1))
        pages = [joins(0, "hand"), home(MANY, 31, MANY)]
        least = 30 * 2 * MANY - 31 * MANY
        self.are_rooms({0: 30, MANY: least, MANY + 5: least, 2 * MANY - 1: least, 2 * MANY: least + 30}, pages, by_month(1))
        self.are_rooms({0: 0, 999: 0, 1000: 0}, [joins(0, "hand"), home(1000, 30001, MANY)], by_month(1000))
        last = FAR + 1000 * (MANY - 1)
        least = 30 * (last + 1) - 30001 * MANY
        pages = [joins(0, "hand"), home(FAR, 30001, MANY)]
        self.are_rooms({FAR // 2: 30 * (FAR // 2 + 1), FAR: least, last: least, last + 1: least + 30}, pages, by_month(1000))

    def test_a_million_times_between_which_the_pay_changes(self):
        # Nothing is earned in the second quarter: its last sending is the least.
        pages = [joins(0, "hand"), home(0, 10, MANY), ranked(MANY // 4, "boy"), ranked(MANY // 2, "hand")]
        least = 30 * MANY // 4 - 10 * MANY // 2
        self.are_rooms({0: 20, MANY // 4: least, MANY // 2 - 1: least, MANY // 2: least + 20}, pages, by_month(1))

    def test_pay_in_parts_of_a_penny(self):
        # The whole parts of what is earned at 2, 12, 22, 32 are 1, 4, 7, 11.
        pages = [joins(0, "third"), home(12, 3), home(22, 3), home(32, 4)]
        self.are_rooms({2: 1, 12: 1, 22: 1, 32: 1}, pages)
        self.are_rooms({2: 0, 12: 0, 22: 0, 32: 0}, pages + [home(2, 1)])
        # A third is left of each month, and a penny of each three.
        pages = [joins(0, "third"), home(12, 3, 40)]
        self.are_rooms({2: 1, 12: 1, 22: 1, 23: 2, 32: 2, 42: 2, 52: 2, 53: 3, 62: 3}, pages)

    def test_days_below_nought_and_of_twenty_figures(self):
        self.are_rooms({-1: 0, -FAR: 0, -MOST: 0, 0: 30, MOST: 30 * (MOST + 1)}, [joins(0, "hand")])
        self.are_rooms({-1: 0, MOST: 10 ** 9 * (MOST + 1) - 10 ** 15}, [joins(0, "rich"), home(5, 10 ** 9, MANY)])
        self.are_rooms({MOST: 0, -MOST: 0}, [joins(0, "boy"), slops(FAR, 1)])

    def test_the_pay_is_of_his_rank_alone(self):
        pages = [joins(0, "hand"), joins(0, "rich", "bob"), slops(3, 10 ** 9, man="bob"), home(3, 10 ** 9, 9, man="bob")]
        self.are_rooms({0: 30, 3: 120}, pages)

    def test_twelve_ranks(self):
        names = ["r" + letter for letter in "abcdefghijkl"]
        ranks = tuple((name, 7, days) for name, days in zip(names, (1000, 999, 997, 991, 983, 977, 971, 967, 953, 947, 941, 937)))
        pages = [joins(0, "ra")] + [ranked(50 * at, name) for at, name in enumerate(names) if at > 0] + [home(600, 1, 3)]
        articles = (ranks, CHESTS, 10)
        self.assertEqual(left(articles, pages, "ann", 2000), 11)
        self.are_rooms({0: 0, 600: 1, 610: 1, 620: 1, 700: 2, 2000: 11}, pages, articles)

    def test_refusals(self):
        with self.assertRaises(NoMan):
            room(PAID, [joins(5), ("lost", 1, 1), ("lost", 2, 1)], "bob", 5)
        with self.assertRaises(Faulty) as caught:
            room(PAID, [joins(5), ("lost", 1, 1), ("lost", 2, 1), leaves(3)], "ann", 5)
        self.assertEqual(caught.exception.faults, (("", 1, "lost"), ("", 2, "lost"), ("ann", 3, "turn")))

    def test_arguments_by_name(self):
        self.assertEqual(room(day=6, man="ann", pages=[joins(5)], articles=PAID), 34)


class FirstOver(unittest.TestCase):
    def is_over(self, wanted, pages, articles=PAID):
        for book in in_orders(pages):
            with self.subTest(book=book):
                given = first_over(articles, book, "ann")
                self.assertEqual(given, wanted)
                self.assertIs(type(given), type(wanted))

    def test_none(self):
        for pages in ([joins(5)], [joins(5), home(6, 34)], [joins(5), slops(6, 34)], [fine(5, 10)], [advance(5, 10)],
                      [home(5, 10)], [joins(5, "hand"), home(14, 300, 50)], [joins(5), ("lost", 9, 5), home(10, 10 ** 9)]):
            self.is_over(None, pages)

    def test_one_sending(self):
        self.is_over((6, 1), [joins(5), home(6, 35)])
        self.is_over((5, 983), [joins(5), home(5, 1000)])
        self.is_over((6, 1), [joins(5), home(6, 34), home(6, 1)])

    def test_a_day_of_slops(self):
        self.is_over((6, 1), [joins(5), slops(6, 35)])
        self.is_over((3, 1), [joins(5), slops(3, 1)])
        self.is_over((50, 7), [slops(50, 7)])
        self.is_over((6, 1), [joins(5), slops(6, 30), home(6, 5)])
        self.is_over((20, 1), [joins(5, "hand"), leaves(6), slops(20, 31)])
        self.is_over((20, 1), [joins(5, "hand"), ("lost", 5, 5), slops(20, 31)])

    def test_on_days_that_are_no_drawing_days(self):
        self.is_over(None, [joins(5, "hand"), fine(5, 100), home(8, 20)])
        self.is_over((8, 1), [joins(5, "hand"), fine(5, 100), home(8, 21)])
        self.is_over(None, [joins(5, "hand"), advance(0, 100), slops(8, 20)])
        self.is_over((8, 1), [joins(5, "hand"), advance(0, 100), slops(8, 21)])
        self.is_over((6, 41), [joins(5, "hand"), advance(0, 100), slops(6, 1), home(7, 1)])
        # A fine on the very day of a sending takes part.
        self.is_over((8, 1), [joins(5, "hand"), fine(8, 120), home(8, 1)])

    def test_several_days_over(self):
        self.is_over((6, 40), [joins(5, "hand"), home(6, 100), home(7, 100), slops(20, 1000)])
        self.is_over((7, 111), [joins(5, "hand"), slops(7, 200), home(6, 1), slops(20, 1000)])

    def test_the_first_of_a_long_run(self):
        for month in (1, 1000):
            self.is_over((5, 1), [joins(5, "hand"), home(5, 31, MANY)], by_month(month))
            # More is earned than sent, and yet the first one is over.
            self.is_over((5, 71), [joins(5, "hand"), advance(0, 100), home(5, 1, MANY)], by_month(month))

    def test_nothing_is_left_of_the_first_of_a_long_run(self):
        for month in (1, 1000):
            pence = 30 * month + 1
            pages = [joins(0, "hand"), fine(0, 30 * 2001 - pence), home(2000, pence, MANY)]
            self.is_over((2000 + month, 1), pages, by_month(month))

    def test_a_run_that_ends_within_another_one(self):
        # 40 a day to 149, where 500 are left, then 20.
        pages = [joins(0, "hand"), home(50, 20, 200), home(50, 20, 100, "aunt")]
        self.is_over(None, [*pages, fine(0, 500)], by_month(1))
        self.is_over((149, 1), [*pages, fine(0, 501)], by_month(1))

    def test_the_last_and_some_other_of_a_long_run(self):
        # A penny less each day, or each thousand days: behind so many as are left of the first one it is over.
        for month, day, pence in ((1, 33333, 31), (1, 100, 31), (1000, 33332, 30001), (1000, 2000, 30001)):
            spare = 30 * (day + 1) - pence
            self.assertLess(spare, MANY)
            over = day + (spare + 1) * month
            self.is_over((over, 1), [joins(0, "hand"), home(day, pence, MANY)], by_month(month))
            self.is_over((over, 1), [joins(0, "hand"), home(day, pence, spare + 2)], by_month(month))
            self.is_over(None, [joins(0, "hand"), home(day, pence, spare + 1)], by_month(month))
            # A penny less from the first one on: a day, or a month, earlier.
            self.is_over((over - month, 1), [joins(0, "hand"), fine(day, 1), home(day, pence, MANY)], by_month(month))

    def test_the_millionth_sending(self):
        for month in (1, 1000):
            day = MANY
            pence = 30 * month + 1
            # So much is had ahead of the run that just its last sending is over, by a penny.
            spare = 30 * (day + 1) - pence - (MANY - 2)
            pages = [joins(0, "hand"), home(day, pence, MANY), fine(day, spare)]
            self.is_over((day + (MANY - 1) * month, 1), pages, by_month(month))
            self.is_over(None, [joins(0, "hand"), home(day, pence, MANY), fine(day, spare - 1)], by_month(month))

    def test_where_the_rank_changes(self):
        pages = [joins(0, "hand"), home(9, 200, 60), ranked(100, "boy"), ranked(200, "hand")]
        # 1000 are left at 99, 200 less each month: 5 months, and the sixth is over.
        self.is_over((159, 200), pages)
        self.is_over((159, 200), pages[:2] + [away(100, 400)])
        self.is_over((159, 200), pages[:2] + [("lost", 159, 99)])
        self.is_over(None, pages[:2] + [("lost", 158, 99)])
        self.is_over(None, pages[:2] + [leaves(100)])
        self.is_over((559, 200), pages[:2] + [leaves(100), joins(500, "boy")])

    def test_two_runs_together(self):
        # 150 and 160 a month with 300 earned: 150 are left at 9, 110 at 13, and 10 less each month.
        pages = [joins(0, "hand"), home(9, 150, 90), home(13, 160, 90)]
        self.is_over((13 + 12 * 10, 10), pages)
        # 260 and 50: 40 are left at 9, 110 at 13.
        self.is_over((9 + 5 * 10, 10), [joins(0, "hand"), home(9, 260, 90), home(13, 50, 90)])
        # The later one begins within the other one, on one of its days: 110 are left there, and 80 less each month.
        self.is_over((199 + 2 * 10, 50), [joins(0, "hand"), home(9, 290, 90), home(199, 90, 90)])

    def test_two_runs_a_million_times(self):
        # 15 and 16 by the day with 30 earned.
        pages = [joins(0, "hand"), home(100, 15, MANY), home(200, 16, MANY)]
        spare = 30 * 201 - 15 * 101 - 16
        self.is_over((200 + spare + 1, 1), pages, by_month(1))

    def test_far_days(self):
        self.is_over((FAR, 10 ** 9), [joins(FAR, "boy"), home(FAR, 10 ** 9, MANY)], by_month(1000))
        self.is_over(None, [joins(FAR, "rich"), home(FAR, 10 ** 9, MANY)], by_month(1))
        self.is_over((FAR, 7), [joins(0, "hand"), ranked(1, "boy"), fine(0, 30), home(FAR, 7, 2)], by_month(1000))
        self.is_over((FAR + 1000, 1), [joins(0, "hand"), ranked(1, "boy"), fine(0, 17), home(FAR, 7, 2)], by_month(1000))
        self.is_over((0, 1), [joins(0, "boy"), home(0, 1)])

    def test_refusals(self):
        with self.assertRaises(NoMan):
            first_over(PAID, [joins(5), ("lost", 1, 1), ("lost", 2, 1)], "bob")
        with self.assertRaises(Faulty) as caught:
            first_over(PAID, [joins(5), leaves(3)], "ann")
        self.assertEqual(caught.exception.faults, (("ann", 3, "turn"),))

    def test_arguments_by_name(self):
        self.assertEqual(first_over(man="ann", pages=[joins(5), home(6, 35)], articles=PAID), (6, 1))


class AsTheSlowBook(unittest.TestCase):
    def is_as_told(self, articles, pages, man, days, slow):
        told = slow.tell(man)
        self.assertEqual(first_over(articles, pages, man), slow.first_over(told))
        for day in days:
            self.assertEqual(room(articles, pages, man, day), slow.room(man, day, told), day)

    def test_small_books(self):
        sound = 0
        for seed in range(150):
            articles, pages = random_book(seed)
            slow = SlowBook(articles, pages)
            days = random.Random(seed).sample(range(45), 12) + [HORIZON - 1]
            for man in slow.names():
                if not slow.faults_for(man):
                    sound += 1
                    with self.subTest(seed=seed, man=man):
                        self.is_as_told(articles, pages, man, days, slow)
        self.assertGreater(sound, 200)

    def test_long_runs(self):
        for seed in range(60):
            articles, pages = long_book(seed)
            days = random.Random(seed).sample(range(1000), 20)
            with self.subTest(seed=seed):
                self.is_as_told(articles, pages, "ann", days, SlowBook(articles, pages, 1000))


class RoomsAreExact(unittest.TestCase):
    def is_over_from(self, articles, pages, day):
        """Whether less than 0 is left at a drawing day from the day on, each asked for by itself."""
        days = [page[2] for page in pages if page[0] == "slops" and page[2] >= day]
        sent = next_sent(articles, pages, "ann", day)
        while sent is not None:
            days.append(sent)
            sent = next_sent(articles, pages, "ann", sent + 1)
        return any(left(articles, pages, "ann", at) < 0 for at in days)

    def test_just_the_room_and_a_penny_more(self):
        tried = 0
        for seed in range(60):
            articles, pages = long_book(seed)
            for day in random.Random(seed).sample(range(950), 6):
                found = room(articles, pages, "ann", day)
                if found > 0:
                    tried += 1
                    with self.subTest(seed=seed, day=day):
                        self.assertFalse(self.is_over_from(articles, pages + [home(day, found, bearer="more")], day))
                        self.assertTrue(self.is_over_from(articles, pages + [home(day, found + 1, bearer="more")], day))
                        self.assertEqual(room(articles, pages + [home(day, found, bearer="more")], "ann", day), 0)
        self.assertGreater(tried, 50)


class FewSteps(unittest.TestCase):
    def book(self, many):
        pages = [joins(0, "hand"), ranked(many // 3, "third"), away(many // 4, many // 3), ("lost", many, many - 7), slops(many // 2, 9)]
        return pages + [home(day, 9, many) for day in (0, 3, many // 5)]

    def test_however_great_days_and_times_are(self):
        for month in (1, 1000):
            articles = by_month(month)
            for action, asked in ((room, (5,)), (room, (MOST,)), (first_over, ())):
                most = steps(10 ** 5, action, articles, self.book(100), "ann", *asked)
                self.assertLessEqual(steps(10 ** 5, action, articles, self.book(MANY), "ann", *asked), 2 * most + 100)


if __name__ == "__main__":
    unittest.main()
