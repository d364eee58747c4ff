"""Joining and leaving: points 6 and 7."""

import unittest

from crewpay.errors import Faulty, NoMan
from crewpay.turns import faults, on_books, paid_days
from helpers import FAR, GOOD, SlowBook, away, in_orders, joins, leaves, random_book, ranked, stretches


class Faults(unittest.TestCase):
    def are_told(self, wanted, pages):
        for book in in_orders(pages):
            with self.subTest(book=book):
                told = faults(GOOD, book)
                self.assertIs(type(told), list)
                self.assertEqual(told, wanted)
                self.assertEqual(faults(pages=book, articles=GOOD), wanted)

    def test_none(self):
        self.are_told([], [])
        self.are_told([], [joins(5)])
        self.are_told([], [joins(5), ranked(6), ranked(7, "boy"), leaves(8), joins(9, "boy"), leaves(10), joins(11)])
        self.are_told([], [joins(0), leaves(FAR)])

    def test_two_turns_at_one_day(self):
        self.are_told([("ann", 5, "two")], [joins(5), leaves(5)])
        self.are_told([("ann", 5, "two")], [joins(5), joins(5, "hand")])
        self.are_told([("ann", 5, "two")], [joins(5), ranked(5)])
        self.are_told([("ann", 9, "two")], [joins(5), ranked(9), leaves(9)])
        self.are_told([("ann", 9, "two")], [joins(5), ranked(9), ranked(9, "boy")])
        self.are_told([("ann", 0, "two")], [joins(0), leaves(0)])
        self.are_told([("ann", FAR, "two")], [joins(FAR), leaves(FAR)])

    def test_each_day_once(self):
        three = [joins(5), leaves(5), ranked(5)]
        self.are_told([("ann", 5, "two")], three)
        self.are_told([("ann", 5, "two")], three + [joins(5, "boy"), joins(5, "hand"), ranked(5, "boy")])
        self.are_told([("ann", 5, "two"), ("ann", 7, "two")], three + [joins(6), leaves(7), ranked(7)])

    def test_days_rise_as_numbers_do(self):
        days = [3, 16, 100, 129, 1024, FAR - 1, FAR]
        self.are_told([("ann", day, "two") for day in days], [page for day in days for page in (joins(day), leaves(day))])
        self.are_told([("ann", day, "turn") for day in days], [leaves(day) for day in days])
        self.are_told([("", day, "lost") for day in days], [("lost", day, 0) for day in days])

    def test_of_a_man_with_two_at_a_day_nothing_else_is_told(self):
        self.are_told([("ann", 5, "two")], [leaves(1), ranked(2), joins(5), leaves(5), leaves(9), leaves(10)])
        self.are_told([("ann", 9, "two")], [leaves(1), joins(9), leaves(9)])

    def test_joins_twice(self):
        self.are_told([("ann", 6, "turn")], [joins(5), joins(6)])
        self.are_told([("ann", 6, "turn"), ("ann", 7, "turn")], [joins(5), joins(6), joins(7, "boy")])
        self.are_told([("ann", 7, "turn")], [joins(5), ranked(6), joins(7)])
        self.are_told([], [joins(5), leaves(6), joins(7)])

    def test_ranked_or_leaves_off_the_books(self):
        self.are_told([("ann", 5, "turn")], [ranked(5)])
        self.are_told([("ann", 5, "turn")], [leaves(5)])
        self.are_told([("ann", 4, "turn")], [ranked(4), joins(5)])
        self.are_told([("ann", 4, "turn")], [leaves(4), joins(5)])
        self.are_told([("ann", 7, "turn")], [joins(5), leaves(6), ranked(7)])
        self.are_told([("ann", 7, "turn")], [joins(5), leaves(6), leaves(7)])
        self.are_told([("ann", 0, "turn"), ("ann", FAR, "turn")], [ranked(0), leaves(FAR)])

    def test_a_faulty_turn_is_as_if_it_were_not_there(self):
        # Ranked off the books one is still off them: so one cannot leave, and can join.
        self.are_told([("ann", 4, "turn"), ("ann", 6, "turn")], [ranked(4), leaves(6), joins(7), ranked(8)])
        # Joining once more one is still on the books: but one leaving takes him off them.
        self.are_told([("ann", 6, "turn"), ("ann", 8, "turn")], [joins(5), joins(6), leaves(7), leaves(8)])
        self.are_told([("ann", 6, "turn")], [joins(5), joins(6), ranked(7), leaves(8), joins(9)])
        self.are_told([("ann", 3, "turn"), ("ann", 4, "turn")], [leaves(3), leaves(4), joins(5), leaves(6)])

    def test_what_is_no_turn_is_no_fault(self):
        pages = [away(1, 9), away(2, 5), ("fine", "ann", 5, 1), ("fine", "ann", 5, 2), ("advance", "ann", 5, 1, "kin"),
                 ("slops", "ann", 5, 1, "kin"), ("home", "ann", 5, 1, 9, "kin")]
        self.are_told([], pages)
        self.are_told([], pages + [joins(5)])
        self.are_told([("ann", 5, "turn")], pages + [leaves(5)])

    def test_lost_ships(self):
        self.are_told([], [("lost", 9, 5)])
        self.are_told([("", 8, "lost"), ("", 9, "lost")], [("lost", 9, 5), ("lost", 8, 5)])
        self.are_told([("", 7, "lost"), ("", 8, "lost"), ("", 9, "lost")], [("lost", 9, 5), ("lost", 8, 5), ("lost", 7, 5)])
        self.are_told([("", 0, "lost"), ("", FAR, "lost")], [("lost", 0, 0), ("lost", FAR, 0)])

    def test_lost_ships_at_one_day(self):
        self.are_told([("", 9, "lost")], [("lost", 9, 5), ("lost", 9, 6)])
        self.are_told([("", 8, "lost"), ("", 9, "lost")], [("lost", 9, 5), ("lost", 9, 6), ("lost", 8, 5)])

    def test_a_man_with_and_one_without(self):
        self.are_told([("ann", 5, "turn")], [leaves(5), joins(5, man="bob")])
        self.are_told([("bob", 5, "two")], [joins(5), joins(5, man="bob"), leaves(5, man="bob")])
        # Two men may well have turns on one day.
        self.are_told([], [joins(5), joins(5, man="bob"), leaves(6), ranked(6, man="bob")])

    def test_in_order(self):
        pages = [leaves(3, "bob"), leaves(20, "bob"), joins(9), leaves(9), joins(100), leaves(100), ("lost", 30, 1), ("lost", 4, 1),
                 ranked(5, man="annie"), leaves(1, "lost"), leaves(1, "two")]
        self.are_told([("", 4, "lost"), ("", 30, "lost"), ("ann", 9, "two"), ("ann", 100, "two"), ("annie", 5, "turn"),
                       ("bob", 3, "turn"), ("bob", 20, "turn"), ("lost", 1, "turn"), ("two", 1, "turn")], pages)

    def test_two_hundred(self):
        self.are_told([("ann", day, "turn") for day in range(200)], [leaves(day) for day in range(200)])
        self.are_told([("", day, "lost") for day in range(200)], [("lost", day, 0) for day in range(200)])
        names = [first + second for first in "abcdefghij" for second in "abcdefghij"]
        self.are_told([(name, 5, "two") for name in names], [page for name in names for page in (joins(5, man=name), leaves(5, name))])


TOLD = (on_books, paid_days)


class Refused(unittest.TestCase):
    def are_told(self, wanted, pages, man="ann"):
        for book in in_orders(pages):
            for told in TOLD:
                with self.subTest(told=told, book=book):
                    with self.assertRaises(Faulty) as caught:
                        told(GOOD, book, man)
                    self.assertIs(type(caught.exception.faults), tuple)
                    self.assertEqual(caught.exception.faults, wanted)

    def test_no_man(self):
        pages = [joins(5), leaves(9, "bob"), ("lost", 9, 5), ("lost", 8, 5), ("home", "ann", 5, 1, 1, "kin")]
        texts = ["", "an", "annie", "Ann", "ann ", "ann\n", "kin", "lost", "mate", "joins", "x" * 4000, "-", "5"]
        for man in texts:
            for told in TOLD:
                for book in ([], pages, pages[:1]):
                    with self.subTest(told=told, man=man), self.assertRaises(NoMan):
                        told(GOOD, book, man)

    def test_a_man_of_any_page(self):
        for page in (away(1, 9), ("fine", "ann", 5, 1), ("advance", "ann", 5, 1, "kin"), ("slops", "ann", 5, 1, "kin"),
                     ("home", "ann", 5, 1, 9, "kin")):
            for told in TOLD:
                self.assertEqual(told(GOOD, [page], "ann"), [])

    def test_his_faults(self):
        self.are_told((("ann", 5, "turn"),), [leaves(5)])
        self.are_told((("ann", 5, "turn"), ("ann", 7, "turn")), [leaves(5), joins(6), joins(7)])
        self.are_told((("ann", 5, "two"),), [joins(5), leaves(5), joins(3)])

    def test_the_ships_faults(self):
        self.are_told((("", 8, "lost"), ("", 9, "lost")), [("lost", 9, 5), ("lost", 8, 5), joins(1)])
        self.are_told((("", 9, "lost"),), [("lost", 9, 5), ("lost", 9, 4), ("fine", "ann", 1, 1)])

    def test_both(self):
        self.are_told((("", 8, "lost"), ("", 9, "lost"), ("ann", 1, "turn")), [("lost", 9, 5), ("lost", 8, 5), leaves(1)])
        self.are_told((("", 8, "lost"), ("", 9, "lost"), ("ann", 1, "two")), [("lost", 9, 5), ("lost", 8, 5), leaves(1), joins(1)])

    def test_no_other_mans_faults(self):
        pages = [joins(1), leaves(5, "bob"), joins(3, man="annie"), leaves(3, "annie")]
        for book in in_orders(pages):
            self.assertEqual(on_books(GOOD, book, "ann"), [(1, None)])
            self.assertEqual(paid_days(GOOD, book, "ann"), [(1, None, "mate")])
        self.are_told((("bob", 5, "turn"),), pages, "bob")
        self.are_told((("annie", 3, "two"),), pages, "annie")
        self.are_told((("", 8, "lost"), ("", 9, "lost"), ("bob", 5, "turn")), pages + [("lost", 9, 5), ("lost", 8, 5)], "bob")

    def test_a_man_with_a_pages_word_for_a_name(self):
        pages = [joins(1, man="lost"), leaves(5, "lost"), ("lost", 9, 5)]
        self.assertEqual(on_books(GOOD, pages, "lost"), [(1, 4)])
        self.are_told((("lost", 9, "turn"),), [leaves(9, "lost"), ("lost", 9, 5)], "lost")


class OnBooks(unittest.TestCase):
    def are_told(self, wanted, pages):
        for book in in_orders(pages):
            with self.subTest(book=book):
                told = on_books(GOOD, book, "ann")
                self.assertIs(type(told), list)
                self.assertEqual(told, wanted)
                self.assertEqual(on_books(man="ann", pages=book, articles=GOOD), wanted)

    def test_without_an_end(self):
        self.are_told([(5, None)], [joins(5)])
        self.are_told([(0, None)], [joins(0)])
        self.are_told([(FAR, None)], [joins(FAR)])

    def test_with_an_end(self):
        self.are_told([(5, 8)], [joins(5), leaves(9)])
        self.are_told([(5, 5)], [joins(5), leaves(6)])
        self.are_told([(0, FAR - 1)], [joins(0), leaves(FAR)])

    def test_several(self):
        self.are_told([(5, 5), (7, 9), (20, None)], [joins(5), leaves(6), joins(7), leaves(10), joins(20)])
        self.are_told([(5, 5), (7, 9)], [joins(5), leaves(6), joins(7), leaves(10)])

    def test_ranked(self):
        self.are_told([(5, None)], [joins(5), ranked(7)])
        self.are_told([(5, 8)], [joins(5), ranked(6), ranked(8, "boy"), leaves(9)])

    def test_away_or_lost_he_is_on_the_books(self):
        self.are_told([(5, 8)], [joins(5), leaves(9), away(0, 6), away(6, 20)])
        self.are_told([(5, 8), (12, None)], [joins(5), leaves(9), joins(12), ("lost", 6, 1)])

    def test_never(self):
        self.are_told([], [away(5, 9), ("fine", "ann", 5, 1)])
        self.are_told([], [away(5, 9), joins(1, man="bob")])

    def test_other_men(self):
        self.are_told([(5, 8)], [joins(5), leaves(9), joins(1, man="bob"), leaves(7, "bob"), joins(8, man="bob")])

    def test_a_hundred(self):
        pages = [joins(3 * at) for at in range(100)] + [leaves(3 * at + 1) for at in range(100)]
        self.are_told([(3 * at, 3 * at) for at in range(100)], pages)


class PaidDays(unittest.TestCase):
    def are_told(self, wanted, pages):
        for book in in_orders(pages):
            with self.subTest(book=book):
                told = paid_days(GOOD, book, "ann")
                self.assertIs(type(told), list)
                self.assertEqual(told, wanted)
                self.assertEqual(paid_days(man="ann", pages=book, articles=GOOD), wanted)

    def test_with_and_without_an_end(self):
        self.are_told([(5, None, "mate")], [joins(5)])
        self.are_told([(5, 8, "mate")], [joins(5), leaves(9)])
        self.are_told([(5, 5, "mate")], [joins(5), leaves(6)])
        self.are_told([(5, 5, "mate"), (7, 9, "boy"), (20, None, "hand")],
                      [joins(5), leaves(6), joins(7, "boy"), leaves(10), joins(20, "hand")])

    def test_never(self):
        self.are_told([], [away(5, 9)])
        self.are_told([], [("home", "ann", 5, 1, 1, "kin"), joins(1, man="bob")])

    def test_ranked(self):
        self.are_told([(5, 6, "mate"), (7, None, "hand")], [joins(5), ranked(7)])
        self.are_told([(5, 5, "mate"), (6, 6, "hand"), (7, 8, "boy")], [joins(5), ranked(6), ranked(7, "boy"), leaves(9)])
        self.are_told([(5, 7, "mate"), (8, 8, "hand")], [joins(5), ranked(8), leaves(9)])

    def test_ranked_while_away(self):
        self.are_told([(5, 6, "mate"), (10, None, "hand")], [joins(5), ranked(8), away(7, 9)])
        self.are_told([(5, 6, "mate"), (10, None, "boy")], [joins(5), ranked(8), ranked(9, "boy"), away(7, 9)])
        self.are_told([(8, None, "hand")], [joins(5), ranked(8), away(5, 7)])

    def test_a_later_joining_ends_an_earlier_rank(self):
        self.are_told([(5, 5, "mate"), (6, 6, "hand"), (8, None, "boy")], [joins(5), ranked(6), leaves(7), joins(8, "boy")])
        self.are_told([(5, 6, "hand"), (8, None, "mate")], [joins(5, "hand"), leaves(7), joins(8)])

    def test_neighbours_with_like_ranks_are_one(self):
        self.are_told([(5, None, "mate")], [joins(5), ranked(7, "mate")])
        self.are_told([(5, 8, "mate")], [joins(5), ranked(6, "mate"), ranked(7, "mate"), leaves(9)])
        self.are_told([(5, 6, "mate"), (7, 9, "hand"), (10, None, "mate")],
                      [joins(5), ranked(7), ranked(8), ranked(10, "mate"), ranked(11, "mate")])

    def test_like_ranks_with_a_gap_are_not_one(self):
        self.are_told([(5, 6, "mate"), (8, None, "mate")], [joins(5), leaves(7), joins(8)])
        self.are_told([(5, 6, "mate"), (8, None, "mate")], [joins(5), away(7, 7)])
        self.are_told([(5, 6, "mate"), (8, None, "mate")], [joins(5), ranked(7), ranked(8, "mate"), away(7, 7)])

    def test_away_ahead_of_a_stretch(self):
        self.are_told([(5, 8, "mate")], [joins(5), leaves(9), away(1, 4)])
        self.are_told([(6, 8, "mate")], [joins(5), leaves(9), away(1, 5)])
        self.are_told([(6, 8, "mate")], [joins(5), leaves(9), away(5, 5)])
        self.are_told([(8, 8, "mate")], [joins(5), leaves(9), away(0, 7)])

    def test_away_within_a_stretch(self):
        self.are_told([(5, 5, "mate"), (7, 8, "mate")], [joins(5), leaves(9), away(6, 6)])
        self.are_told([(5, 5, "mate"), (8, 8, "mate")], [joins(5), leaves(9), away(6, 7)])
        self.are_told([(5, 5, "mate"), (8, None, "mate")], [joins(5), away(6, 7)])
        self.are_told([(5, 5, "mate"), (7, 7, "mate"), (9, None, "mate")], [joins(5), away(6, 6), away(8, 8)])

    def test_away_over_a_stretch(self):
        for first, last in ((5, 8), (4, 9), (5, 9), (4, 8), (0, FAR)):
            self.are_told([], [joins(5), leaves(9), away(first, last)])
        self.are_told([(20, None, "boy")], [joins(5), leaves(9), joins(15, "boy"), away(0, 19)])

    def test_away_behind_a_stretch(self):
        self.are_told([(5, 8, "mate")], [joins(5), leaves(9), away(9, 20)])
        self.are_told([(5, 7, "mate")], [joins(5), leaves(9), away(8, 20)])
        self.are_told([(5, 7, "mate")], [joins(5), leaves(9), away(8, 8)])
        self.are_told([(5, 5, "mate")], [joins(5), leaves(9), away(6, 20)])

    def test_away_over_two_stretches_and_what_is_between(self):
        self.are_told([(5, 6, "mate"), (14, 16, "hand")], [joins(5), leaves(9), joins(12, "hand"), leaves(17), away(7, 13)])
        self.are_told([(5, 6, "mate"), (9, None, "hand")], [joins(5), ranked(8), away(7, 8)])

    def test_two_away_that_overlap(self):
        self.are_told([(5, 6, "mate"), (12, None, "mate")], [joins(5), away(7, 10), away(9, 11)])
        self.are_told([(5, 6, "mate"), (12, None, "mate")], [joins(5), away(7, 11), away(8, 9)])
        self.are_told([(5, 6, "mate"), (12, None, "mate")], [joins(5), away(7, 11), away(7, 9), away(10, 11)])
        self.are_told([(5, 6, "mate"), (12, None, "mate")], [joins(5), away(7, 9), away(10, 11)])

    def test_away_for_ever_as_pages_can_tell(self):
        self.are_told([(5, 8, "mate"), (FAR + 1, None, "mate")], [joins(5), away(9, FAR)])
        self.are_told([(FAR + 1, None, "mate")], [joins(FAR), away(FAR, FAR)])

    def test_another_man_away(self):
        self.are_told([(5, 8, "mate")], [joins(5), leaves(9), away(5, 6, "bob"), joins(1, man="bob")])

    def test_a_lost_ships_pay(self):
        pages = [joins(5), leaves(9), joins(12, "hand")]
        for to in (0, 3, 4):
            self.are_told([], pages + [("lost", 30, to)])
        self.are_told([(5, 5, "mate")], pages + [("lost", 30, 5)])
        self.are_told([(5, 7, "mate")], pages + [("lost", 30, 7)])
        for to in (8, 9, 11):
            self.are_told([(5, 8, "mate")], pages + [("lost", 30, to)])
        self.are_told([(5, 8, "mate"), (12, 12, "hand")], pages + [("lost", 30, 12)])
        self.are_told([(5, 8, "mate"), (12, 30, "hand")], pages + [("lost", 30, 30)])
        self.are_told([(5, 8, "mate"), (12, FAR, "hand")], pages + [("lost", FAR, FAR)])

    def test_a_lost_ships_pay_runs_to_the_told_day_alone(self):
        for day in (7, 8, 30, FAR):
            self.are_told([(5, 7, "mate")], [joins(5), ("lost", day, 7)])
            self.are_told([(5, 5, "mate"), (6, 7, "boy")], [joins(5), ranked(6, "boy"), ranked(8), ("lost", day, 7)])

    def test_lost_and_away(self):
        self.are_told([(5, 5, "mate")], [joins(5), away(6, 9), ("lost", 9, 9)])
        self.are_told([(5, 5, "mate"), (9, 9, "mate")], [joins(5), away(6, 8), ("lost", 9, 9)])
        self.are_told([(5, 6, "mate")], [joins(5), away(8, 8), ("lost", 9, 6)])

    def test_a_lost_ship_for_all_alike(self):
        pages = [joins(5), joins(1, "boy", "bob"), ("lost", 9, 7), joins(8, "hand", "cid")]
        for book in in_orders(pages):
            told = [paid_days(GOOD, book, man) for man in ("ann", "bob", "cid")]
            self.assertEqual(told, [[(5, 7, "mate")], [(1, 7, "boy")], []])

    def test_far_days(self):
        self.are_told([(FAR - 2, FAR - 2, "mate"), (FAR, None, "hand")], [joins(FAR - 2), leaves(FAR - 1), joins(FAR, "hand")])
        self.are_told([(0, FAR - 1, "mate"), (FAR, None, "hand")], [joins(0), ranked(FAR)])
        self.are_told([(0, 0, "mate"), (FAR, FAR, "mate")], [joins(0), away(1, FAR - 1), ("lost", FAR, FAR)])


class AsTheSlowBook(unittest.TestCase):
    def test_faults(self):
        seen = set()
        for seed in range(400):
            articles, pages = random_book(seed)
            wanted = SlowBook(articles, pages).faults()
            self.assertEqual(faults(articles, pages), wanted, (seed, pages))
            seen.update(word for man, day, word in wanted)
        self.assertEqual(seen, {"two", "turn", "lost"})

    def test_days(self):
        sound = faulty = 0
        for seed in range(150):
            articles, pages = random_book(seed)
            slow = SlowBook(articles, pages)
            for man in slow.names():
                wanted = slow.faults_for(man)
                if wanted:
                    faulty += 1
                    with self.assertRaises(Faulty) as caught:
                        paid_days(articles, pages, man)
                    self.assertEqual(caught.exception.faults, wanted, (seed, man))
                    continue
                sound += 1
                told = slow.tell(man)
                books = [(first, last) for first, last, on in stretches(told.books)]
                self.assertEqual(on_books(articles, pages, man), books, (seed, man))
                self.assertEqual(paid_days(articles, pages, man), stretches(told.ranks), (seed, man))
        self.assertGreater(min(sound, faulty), 50)


if __name__ == "__main__":
    unittest.main()
