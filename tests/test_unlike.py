"""Two books held against one another: point 14."""

import random
import unittest

from crewpay.errors import Faulty, NoArticles, NoMan, NoPages
from crewpay.ledgers import sent_on
from crewpay.turns import paid_days
from crewpay.unlike import first_unlike, ranks_unlike, sums_unlike
from helpers import (
    CHESTS, FAR, GOOD, HORIZON, SlowBook, advance, away, fine, great_book, home, in_orders, joins, leaves, long_book,
    random_book, random_page, ranked, slops, small_things, steps,
)

ALL = (ranks_unlike, sums_unlike, first_unlike)
TEN = GOOD[:2] + (10,)
MANY = 10 ** 6


def by_month(month):
    return GOOD[:2] + (month,)


def turned_ranks(rows):
    return [(first, last, other, rank) for first, last, rank, other in rows]


def turned_sums(rows):
    return sorted((day, times, word, other, pence) for day, times, word, pence, other in rows)


class Unlike(unittest.TestCase):
    def are_told(self, ranks, sums, one, other, articles=TEN):
        """What is told of both books, in several orders, and, with ranks and sums exchanged, of both turned about."""
        first = min([row[0] for row in ranks + sums], default=None)
        for book, held in zip(in_orders(one), in_orders(other)[::-1]):
            with self.subTest(one=book, other=held):
                self.assertEqual(ranks_unlike(articles, book, held, "ann"), ranks)
                self.assertEqual(sums_unlike(articles, book, held, "ann"), sums)
                self.assertEqual(first_unlike(articles, book, held, "ann"), first)
                self.assertEqual(ranks_unlike(articles, held, book, "ann"), turned_ranks(ranks))
                self.assertEqual(sums_unlike(articles, held, book, "ann"), turned_sums(sums))
                self.assertEqual(first_unlike(articles, held, book, "ann"), first)


class Ranks(Unlike):
    def are_ranks(self, wanted, one, other):
        self.are_told(wanted, [], one, other)

    def test_the_same_books(self):
        pages = [joins(5), ranked(9), leaves(20), away(7, 8), ("lost", 30, 25)]
        self.are_ranks([], pages, pages)
        self.are_ranks([], pages, pages[::-1])
        self.are_ranks([], pages, pages + [joins(0, "boy", "bob")])

    def test_unlike_pages_that_tell_alike(self):
        self.are_ranks([], [joins(5), ranked(9, "mate"), ranked(12, "mate")], [joins(5)])
        self.are_ranks([], [joins(5), leaves(9)], [joins(5), ("lost", 20, 8)])
        self.are_ranks([], [joins(5), away(9, 12)], [joins(5), leaves(9), joins(13)])
        self.are_ranks([], [joins(5), away(9, 12)], [joins(5), away(9, 10), away(10, 12)])

    def test_a_man_of_whom_only_one_book_tells(self):
        self.are_ranks([(5, None, "mate", "")], [joins(5)], [])
        self.are_ranks([(5, 8, "mate", ""), (9, 11, "hand", ""), (14, 19, "hand", "")],
                       [joins(5), ranked(9), leaves(20), away(12, 13)], [joins(0, "boy", "bob")])
        self.are_ranks([], [leaves(3, "bob"), away(5, 9)], [])

    def test_with_and_without_an_end(self):
        self.are_ranks([(9, None, "mate", "hand")], [joins(5)], [joins(5), ranked(9)])
        self.are_ranks([(9, 11, "mate", "hand")], [joins(5)], [joins(5), ranked(9), ranked(12, "mate")])
        self.are_ranks([(9, None, "mate", "")], [joins(5)], [joins(5), leaves(9)])
        self.are_ranks([(9, 11, "mate", "")], [joins(5)], [joins(5), away(9, 11)])
        self.are_ranks([(5, 8, "mate", "")], [joins(5)], [joins(9)])
        self.are_ranks([(26, None, "mate", "")], [joins(5)], [joins(5), ("lost", 30, 25)])
        self.are_ranks([(5, 5, "mate", "boy")], [joins(5)], [joins(5, "boy"), ranked(6, "mate")])

    def test_neighbours_with_like_pairs_are_one(self):
        # The one changes where the other one does, too, and the pair is the same again.
        self.are_ranks([(5, 14, "mate", "hand")], [joins(5), ranked(15)], [joins(5, "hand"), ranked(9, "hand")])
        # A pair that changes ends a stretch, though unlike it stays.
        self.are_ranks([(5, 8, "mate", "hand"), (9, 11, "mate", "boy"), (12, None, "hand", "boy")],
                       [joins(5), ranked(12)], [joins(5, "hand"), ranked(9, "boy")])
        self.are_ranks([(5, 8, "mate", "hand"), (9, None, "hand", "mate")], [joins(5), ranked(9)], [joins(5, "hand"), ranked(9, "mate")])
        # With a gap between them there are two.
        self.are_ranks([(5, 8, "mate", "hand"), (12, None, "mate", "hand")],
                       [joins(5), leaves(9), joins(12)], [joins(5, "hand"), leaves(9), joins(12, "hand")])

    def test_a_rank_that_earns_nothing_is_not_none(self):
        self.are_ranks([(5, None, "boy", "")], [joins(5, "boy")], [away(1, 2)])

    def test_far_days(self):
        self.are_ranks([(FAR, None, "mate", "")], [joins(FAR)], [away(0, FAR)])
        self.are_ranks([(0, FAR - 1, "", "mate"), (FAR, None, "hand", "mate")], [joins(FAR, "hand")], [joins(0)])


class Sums(Unlike):
    def are_sums(self, wanted, one, other, articles=TEN):
        self.are_told([], wanted, [*one, joins(0)], [*other, joins(0)], articles)

    def test_the_same(self):
        pages = [advance(5, 7), slops(5, 7), fine(5, 7), home(5, 7, 9)]
        self.are_sums([], pages, pages[::-1])

    def test_each_word(self):
        for make, word in ((advance, "advance"), (slops, "slops"), (fine, "fine"), (home, "home")):
            self.are_sums([(5, 1, word, 7, 0)], [make(5, 7)], [])
            self.are_sums([(5, 1, word, 7, 8)], [make(5, 7)], [make(5, 8)])
            self.are_sums([(5, 1, word, 7, 0), (6, 1, word, 0, 7)], [make(5, 7)], [make(6, 7)])
            self.are_sums([(5, 1, word, 8, 0)], [make(5, 7), make(5, 1)], [])
            self.are_sums([], [make(5, 7), make(5, 1)], [make(5, 2), make(5, 6)])
            self.are_sums([(5, 1, word, 8, 6)], [make(5, 7), make(5, 1), make(6, 3)], [make(5, 6), make(6, 3)])

    def test_words_of_one_day_rising(self):
        self.are_sums([(5, 1, "advance", 1, 0), (5, 1, "fine", 4, 0), (5, 1, "home", 2, 0), (5, 1, "slops", 3, 0)],
                      [advance(5, 1), slops(5, 3), fine(5, 4), home(5, 2)], [])
        self.are_sums([(5, 1, "advance", 7, 0), (5, 1, "slops", 0, 7)], [advance(5, 7)], [slops(5, 7)])

    def test_bearers_do_not_count(self):
        self.are_sums([], [advance(5, 7, "aa"), slops(5, 7, "aa"), home(5, 7, bearer="aa")], [advance(5, 7), slops(5, 7), home(5, 7)])

    def test_single_sums_a_month_apart_are_not_one(self):
        self.are_sums([(5, 1, "slops", 7, 0), (15, 1, "slops", 7, 0)], [slops(5, 7), slops(15, 7)], [])

    def test_sent_month_by_month(self):
        self.are_sums([(5, 9, "home", 7, 0)], [home(5, 7, 9)], [])
        self.are_sums([(5, 9, "home", 7, 8)], [home(5, 7, 9)], [home(5, 8, 9)])
        self.are_sums([], [home(5, 7, 9)], [home(5, 7, 4), home(45, 7, 5)])
        self.are_sums([(5, 9, "home", 7, 0)], [home(5, 7, 4), home(45, 7, 5)], [])
        self.are_sums([(5, 4, "home", 7, 0), (45, 5, "home", 8, 0)], [home(5, 7, 4), home(45, 8, 5)], [])
        self.are_sums([(5, 3, "home", 7, 0), (45, 5, "home", 7, 0)], [home(5, 7, 3), home(45, 7, 5)], [])

    def test_as_few_as_can_be(self):
        # Other pages in both books, and yet the one pair of sums all along.
        self.are_sums([(5, 9, "home", 7, 3)], [home(5, 7, 4), home(45, 7, 5)], [home(5, 3, 6), home(65, 3, 3)])
        self.are_sums([(5, 9, "home", 7, 3)], [home(5, 7, 4), home(45, 7, 5)], [home(5, 3, 4), home(45, 2, 5), home(45, 1, 5)])
        # Of two that are alike in sum, but not in both parts, it is not one.
        self.are_sums([(5, 4, "home", 7, 3), (45, 5, "home", 8, 4)], [home(5, 7, 4), home(45, 8, 5)], [home(5, 3, 4), home(45, 4, 5)])

    def test_runs_that_begin_or_end_within_one_another(self):
        self.are_sums([(5, 2, "home", 7, 0)], [home(5, 7, 9)], [home(25, 7, 7)])
        self.are_sums([(65, 3, "home", 7, 0)], [home(5, 7, 9)], [home(5, 7, 6)])
        self.are_sums([(5, 2, "home", 7, 0), (65, 3, "home", 7, 0)], [home(5, 7, 9)], [home(25, 7, 4)])
        self.are_sums([(5, 2, "home", 7, 0), (25, 4, "home", 7, 2), (65, 3, "home", 7, 0)], [home(5, 7, 9)], [home(25, 2, 4)])
        self.are_sums([(5, 2, "home", 7, 0), (95, 2, "home", 0, 7)], [home(5, 7, 9)], [home(25, 7, 9)])
        self.are_sums([(5, 2, "home", 7, 0), (25, 7, "home", 7, 2), (95, 2, "home", 0, 2)], [home(5, 7, 9)], [home(25, 2, 9)])
        self.are_sums([(5, 2, "home", 7, 0), (25, 2, "home", 9, 0), (45, 5, "home", 7, 0)], [home(5, 7, 9), home(25, 2, 2)], [])

    def test_unlike_days_of_the_month(self):
        self.are_sums([(5, 9, "home", 7, 0), (6, 9, "home", 0, 7)], [home(5, 7, 9)], [home(6, 7, 9)])
        self.are_sums([(3, 2, "home", 1, 0), (5, 9, "home", 7, 0), (19, 2, "home", 0, 2)],
                      [home(5, 7, 9), home(3, 1, 2)], [home(19, 2, 2)])

    def test_days_of_the_month_do_not_go_over_into_one_another(self):
        # The last of the one and the first of the other one are a month and a day apart.
        self.are_sums([(5, 2, "home", 7, 0), (26, 2, "home", 7, 0)], [home(5, 7, 2), home(26, 7, 2)], [])

    def test_months_of_one_day(self):
        one = by_month(1)
        self.are_sums([(5, 9, "home", 7, 0)], [home(5, 7, 4), home(9, 7, 5)], [], one)
        self.are_sums([(5, 4, "home", 7, 0), (9, 2, "home", 14, 0), (11, 3, "home", 7, 0)], [home(5, 7, 6), home(9, 7, 5)], [], one)
        self.are_sums([(8, 1, "home", 0, 7)], [home(5, 7, 3), home(9, 7, 5)], [home(5, 7, 9)], one)

    def test_a_million_times(self):
        for month in (1, 28, 1000):
            articles = by_month(month)
            last = 5 + month * (MANY - 1)
            self.are_sums([(5, MANY, "home", 7, 0)], [home(5, 7, MANY)], [], articles)
            self.are_sums([(last, 1, "home", 7, 0)], [home(5, 7, MANY)], [home(5, 7, MANY - 1)], articles)
            self.are_sums([(5, 1, "home", 7, 0), (last + month, 1, "home", 0, 7)], [home(5, 7, MANY)], [home(5 + month, 7, MANY)], articles)
            self.are_sums([(5 + 77 * month, 1, "home", 7, 8)], [home(5, 7, MANY)], [home(5, 7, MANY), home(5 + 77 * month, 1)], articles)

    def test_on_and_off_the_books(self):
        pages = [home(5, 7, 9)]
        # Sent on 5, 15, 25, .., 85 where he is on the books.
        self.are_told([(20, 49, "mate", "")], [(25, 3, "home", 7, 0)], [*pages, joins(0)], [*pages, joins(0), leaves(20), joins(50)])
        # He leaves and joins between two sendings: all of them are sent.
        self.are_told([(20, 22, "mate", "")], [], [*pages, joins(0)], [*pages, joins(0), leaves(20), joins(23)])
        self.are_told([(0, None, "mate", "")], [(5, 9, "home", 7, 0)], [*pages, joins(0)], [*pages, joins(0, "mate", "bob")])
        self.are_told([(20, 22, "mate", "")], [(5, 9, "home", 7, 0)], [*pages, joins(0)], [joins(0), leaves(20), joins(23)])
        self.are_told([(0, 5, "mate", "")], [(5, 1, "home", 7, 0)], [*pages, joins(0)], [*pages, joins(6)])
        self.are_told([(30, 40, "mate", "")], [], [*pages, joins(0)], [*pages, joins(0), away(30, 40)])

    def test_a_ship_lost_in_one_of_them(self):
        pages = [home(5, 7, 9), joins(0)]
        self.are_told([(21, None, "mate", "")], [(35, 6, "home", 7, 0)], pages, [*pages, ("lost", 34, 20)])
        self.are_told([(21, None, "mate", "")], [(45, 5, "home", 7, 0)], pages, [*pages, ("lost", 35, 20)])
        self.are_told([(21, 30, "", "mate")], [(45, 1, "home", 0, 7)], [*pages, ("lost", 35, 20)], [*pages, ("lost", 45, 30)])
        # Slops and their like are had behind that day, too.
        self.are_told([(1, None, "mate", "")], [], [joins(0), slops(50, 7)], [joins(0), slops(50, 7), ("lost", 40, 0)])

    def test_sums_of_a_man_never_on_the_books(self):
        self.are_told([], [(5, 1, "slops", 7, 0)], [slops(5, 7), home(5, 7, 9)], [home(5, 8, 9)])
        self.are_told([], [(5, 1, "slops", 7, 0)], [slops(5, 7), home(5, 7, 9)], [])


class FirstUnlike(unittest.TestCase):
    def test_the_least_of_both(self):
        one = [joins(5), slops(9, 7)]
        for other, wanted in (([joins(5), slops(9, 7)], None), ([joins(5), slops(9, 8)], 9), ([joins(6), slops(9, 8)], 5),
                              ([joins(5), ranked(12), slops(9, 8)], 9), ([joins(5), ranked(7), slops(9, 8)], 7),
                              ([joins(5), slops(9, 7), fine(0, 1)], 0), ([joins(5), slops(9, 7), home(5, 1)], 5)):
            for book in in_orders(other):
                self.assertEqual(first_unlike(TEN, one, book, "ann"), wanted)
                self.assertEqual(first_unlike(TEN, book, one, "ann"), wanted)


class Refusals(unittest.TestCase):
    GOOD_BOOK = [joins(5), joins(0, "boy", "bob")]

    def are_refused(self, refusal, articles, one, other, man="ann"):
        caught = []
        for action in ALL:
            with self.subTest(action=action, one=one, other=other), self.assertRaises(refusal) as told:
                action(articles, one, other, man)
            caught.append(told.exception)
        return caught

    def test_no_articles_ahead_of_all_else(self):
        for articles in small_things()[:40] + [list(GOOD)]:
            for one, other in ((None, None), ([], []), (self.GOOD_BOOK, self.GOOD_BOOK)):
                self.are_refused(NoArticles, articles, one, other)
                self.are_refused(NoArticles, articles, one, other, "zed")

    def test_no_pages_of_either(self):
        for pages in small_things():
            if pages != []:
                self.are_refused(NoPages, GOOD, pages, self.GOOD_BOOK)
                self.are_refused(NoPages, GOOD, self.GOOD_BOOK, pages)
        for pages in ([joins(5), joins(5)], [fine(day, 1) for day in range(201)], [joins(5, "cook")]):
            self.are_refused(NoPages, GOOD, pages, [leaves(5)], "zed")
            self.are_refused(NoPages, GOOD, [leaves(5)], pages, "zed")

    def test_two_hundred_pages_each(self):
        many = [fine(day, 1) for day in range(200)]
        self.assertEqual(first_unlike(GOOD, many, [fine(day, 2) for day in range(200)], "ann"), 0)

    def test_no_man_in_neither(self):
        for man in ("zed", "", "an", "kin", "mate", "x" * 4000):
            self.are_refused(NoMan, GOOD, self.GOOD_BOOK, [leaves(5), ("lost", 1, 1), ("lost", 2, 2)], man)
            self.are_refused(NoMan, GOOD, [], [], man)
        self.are_refused(NoMan, GOOD, [("lost", 1, 1)], [("lost", 1, 1)], "lost")

    def test_faulty_by_the_first_book_then_by_the_other_one(self):
        one, other = [leaves(5), leaves(8)], [leaves(3)]
        for given, wanted in (((one, other), (("ann", 5, "turn"), ("ann", 8, "turn"))), ((other, one), (("ann", 3, "turn"),)),
                              ((self.GOOD_BOOK, other), (("ann", 3, "turn"),)), ((other, self.GOOD_BOOK), (("ann", 3, "turn"),)),
                              (([], other), (("ann", 3, "turn"),))):
            for told in self.are_refused(Faulty, GOOD, *given):
                self.assertEqual(told.faults, wanted)
                self.assertIs(type(told.faults), tuple)

    def test_the_ships_faults_where_the_man_is_in_the_other_book_alone(self):
        lost = [("lost", 2, 1), ("lost", 1, 1)]
        for given in ((lost, [joins(5)]), ([joins(5)], lost), (lost, [joins(5), leaves(3), leaves(5)])):
            for told in self.are_refused(Faulty, GOOD, *given):
                self.assertEqual(told.faults, (("", 1, "lost"), ("", 2, "lost")))
        for told in self.are_refused(Faulty, GOOD, [joins(5), leaves(3)], [joins(5), *lost]):
            self.assertEqual(told.faults, (("ann", 3, "turn"),))

    def test_each_books_lost_page_is_its_own(self):
        # One each is no fault.
        self.assertEqual(ranks_unlike(GOOD, [joins(0), ("lost", 5, 5)], [joins(0), ("lost", 7, 7)], "ann"), [(6, 7, "", "mate")])

    def test_other_mens_faults_do_not_count(self):
        self.assertEqual(first_unlike(GOOD, [joins(5), leaves(3, "bob")], [joins(5), leaves(4, "bob")], "ann"), None)

    def test_arguments_by_name(self):
        given = {"man": "ann", "other": [joins(6), slops(9, 7)], "one": [joins(5)], "articles": GOOD}
        self.assertEqual(ranks_unlike(**given), [(5, 5, "mate", "")])
        self.assertEqual(sums_unlike(**given), [(9, 1, "slops", 0, 7)])
        self.assertEqual(first_unlike(**given), 5)

    def test_lists_are_the_askers_own(self):
        one, other = [joins(5), slops(9, 7)], [joins(6)]
        for action in (ranks_unlike, sums_unlike):
            for given in ((one, other), (one, one)):
                first, second = action(GOOD, *given, "ann"), action(GOOD, *given, "ann")
                wanted = list(first)
                first.append("more")
                self.assertEqual(second, wanted)
                second.clear()
                self.assertEqual(action(GOOD, *given, "ann"), wanted)
        self.assertEqual((one, other), ([joins(5), slops(9, 7)], [joins(6)]))


def pairs_by_days(slow, held, man):
    """The pairs of ranks ("" for none) and of sums by words, for each day, of two slow books."""
    days = range(slow.horizon)
    ranks = [(slow.rank_on(man, day) or "", held.rank_on(man, day) or "") for day in days]
    sums = {word: [(slow.had_on(man, word, day), held.had_on(man, word, day)) for day in days] for word in ("advance", "slops", "fine")}
    sums["home"] = [(slow.sent_on(man, day), held.sent_on(man, day)) for day in days]
    return ranks, sums


def slow_ranks(ranks):
    rows = []
    for day, pair in enumerate(ranks):
        if pair[0] != pair[1]:
            if day > 0 and ranks[day - 1] == pair:
                rows[-1] = (rows[-1][0], day) + pair
            else:
                rows.append((day, day) + pair)
    return [(first, None if last == len(ranks) - 1 else last, rank, other) for first, last, rank, other in rows]


def slow_sums(sums, month):
    rows = []
    for word, pairs in sums.items():
        for day, pair in enumerate(pairs):
            step = month if word == "home" else 10 ** 9
            if pair[0] != pair[1] and (day < step or pairs[day - step] != pair):
                times = 1
                while day + times * step < len(pairs) and pairs[day + times * step] == pair:
                    times += 1
                rows.append((day, times, word) + pair)
    return sorted(rows)


class DayByDay(unittest.TestCase):
    def is_as_told(self, articles, one, other, man, horizon=HORIZON):
        ranks, sums = pairs_by_days(SlowBook(articles, one, horizon), SlowBook(articles, other, horizon), man)
        told = (ranks_unlike(articles, one, other, man), sums_unlike(articles, one, other, man))
        self.assertEqual(told, (slow_ranks(ranks), slow_sums(sums, articles[2])))
        days = [row[0] for row in told[0] + told[1]]
        self.assertEqual(first_unlike(articles, one, other, man), min(days, default=None))
        turned = (ranks_unlike(articles, other, one, man), sums_unlike(articles, other, one, man))
        self.assertEqual(turned, (turned_ranks(told[0]), turned_sums(told[1])))

    def otherwise(self, chance, articles, pages):
        """The pages with some fewer, some more, and some told otherwise."""
        book = [page for page in pages if chance.random() < 0.8]
        book += [random_page(chance, articles, chance.choice(("ann", "bob", "lost"))) for at in range(chance.randint(0, 4))]
        book += [page[:3] + (page[3] + 1,) + page[4:] for page in pages if page[0] in ("home", "slops") and chance.random() < 0.2]
        return sorted(set(book))

    def test_small_books(self):
        sound = 0
        for seed in range(150):
            chance = random.Random(seed)
            articles, pages = random_book(seed)
            book = self.otherwise(chance, articles, pages)
            slow, held = SlowBook(articles, pages), SlowBook(articles, book)
            for man in sorted(set(slow.names() + held.names())):
                if not slow.faults_for(man) and not held.faults_for(man):
                    sound += 1
                    with self.subTest(seed=seed, man=man):
                        self.is_as_told(articles, pages, book, man)
        self.assertGreater(sound, 150)

    def test_long_runs(self):
        for seed in range(40):
            chance = random.Random(seed)
            articles, pages = long_book(seed)
            book = [page for page in pages if page[0] in ("joins", "ranked", "leaves") or chance.random() < 0.7]
            book += [home(chance.randint(0, 200), chance.randint(1, 9), chance.randint(1, 700 // articles[2]), "other")]
            with self.subTest(seed=seed):
                self.is_as_told(articles, pages, book, "ann", 1000)

    def test_two_hundred_pages(self):
        articles, pages = great_book(3)
        # A page of each word is told otherwise; the turns are the same.
        turns = [page for page in pages if page[0] in ("joins", "ranked", "leaves")]
        book = turns + [page for page in great_book(4)[1] if page[0] not in ("joins", "ranked", "leaves")]
        self.is_as_told(articles, pages, book, "ann", 520)

    def test_told_apart_at_just_the_days_at_which_they_are(self):
        for seed in range(20):
            articles, pages = long_book(seed)
            other_articles, book = long_book(seed + 100)
            book = [page for page in book if page[0] != "lost"]
            rows = ranks_unlike(articles, pages, book, "ann")
            days = {day for first, last, rank, other in rows for day in range(first, 1000 if last is None else last + 1)}
            told = [stretch[:2] for stretch in paid_days(articles, pages, "ann")]
            self.assertTrue(days or told)
            sent = {}
            for day, times, word, pence, other in sums_unlike(articles, pages, book, "ann"):
                if word == "home":
                    sent.update({day + at * articles[2]: (pence, other) for at in range(times)})
            for day in range(0, 1000, 3):
                pair = (sent_on(articles, pages, "ann", day), sent_on(articles, book, "ann", day))
                self.assertEqual(sent.get(day), pair if pair[0] != pair[1] else None)


class FewSteps(unittest.TestCase):
    def test_however_great_days_and_times_are(self):
        for month in (1, 1000):
            articles = (GOOD[0], CHESTS, month)
            one = [joins(0), leaves(10 ** 11), joins(FAR), home(0, 7, MANY), home(3, 8, MANY), home(FAR, 7, MANY)]
            other = [joins(0), home(1, 7, MANY), home(3, 9, MANY), home(FAR, 9, MANY)]
            for action in ALL:
                steps(3000, action, articles, one, other, "ann")

    def test_two_hundred_pages_each(self):
        articles, pages = great_book(1, 10 ** 9)
        book = great_book(2, 10 ** 9)[1]
        for action in ALL:
            steps(200000, action, articles, pages, book, "ann")


if __name__ == "__main__":
    unittest.main()
