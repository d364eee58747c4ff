"""Points 2 and 3, of all that is told by pages: refusals, what is handed in and told, orders, few steps."""

import copy
import unittest

from crewpay.errors import Faulty, NoArticles, NoMan, NoPages, NoSum, WageError
from crewpay.ledgers import earned, had, left, next_sent, sent_on, when_earned
from crewpay.pages import are_pages, is_page, men
from crewpay.turns import faults, on_books, paid_days
from helpers import CHESTS, FAR, GOOD, MOST, away, home, in_orders, joins, leaves, ranked, random_book, small_things, steps

# What is told of a man, and what is asked for beside him.
OF_A_MAN = (
    (on_books, ()), (paid_days, ()), (earned, (30,)), (when_earned, (30,)), (had, (30,)), (sent_on, (30,)),
    (next_sent, (30,)), (left, (30,)),
)
OF_PAGES = (men, faults)
LISTS = (on_books, paid_days)
PAGES = [
    joins(2), ranked(9), leaves(20), joins(22, "boy"), away(4, 6), away(11, 12), home(3, 7, 5), ("advance", "ann", 0, 5, "owner"),
    ("slops", "ann", 8, 3, "purser"), ("fine", "ann", 25, 2), joins(1, "hand", "bob"), leaves(30, "bob"), home(2, 9, 50, man="bob"),
    ("lost", 40, 35),
]


def telling(articles, pages, man):
    """All that is told of a man, refusals included."""
    told = []
    for action, asked in OF_A_MAN:
        for more in ([()] if asked == () else [(number,) for number in (-1, 1, 5, 9, 21, 30, 100)]):
            try:
                told.append(action(articles, pages, man, *more))
            except WageError as refusal:
                told.append((type(refusal), getattr(refusal, "faults", None)))
    return told


class Refusals(unittest.TestCase):
    def are_refused(self, refusal, articles, pages, man, of_pages=True):
        for action, asked in OF_A_MAN:
            with self.subTest(action=action, articles=articles, pages=pages, man=man), self.assertRaises(refusal):
                action(articles, pages, man, *asked)
        for action in OF_PAGES if of_pages else ():
            with self.subTest(action=action, articles=articles, pages=pages), self.assertRaises(refusal):
                action(articles, pages)

    def test_no_articles_ahead_of_all_else(self):
        strange = small_things()[:28] + [list(GOOD), (GOOD[0], GOOD[1], 0), (GOOD[0], (), 28), GOOD + (1,)]
        for articles in strange:
            for pages in ([], PAGES, None, (), [()], [leaves(5)]):
                for man in ("ann", "zed", ""):
                    self.are_refused(NoArticles, articles, pages, man)
            with self.assertRaises(NoArticles):
                when_earned(articles, None, "zed", 0)

    def test_no_articles_of_anything(self):
        for articles in small_things():
            self.are_refused(NoArticles, articles, PAGES, "ann")

    def test_no_pages_of_anything(self):
        for pages in small_things():
            if pages != []:
                self.are_refused(NoPages, GOOD, pages, "ann")

    def test_no_pages_behind_no_articles_alone(self):
        many = [("fine", "ann", day, 1) for day in range(201)]
        for pages in (tuple(PAGES), PAGES + PAGES[:1], PAGES + [None], PAGES + [[]], [list(PAGES[0])], [PAGES], many,
                      PAGES + [joins(5, "cook", "bob")], PAGES + [("lost", 5, 6)], [leaves(5), leaves(5)], [leaves(True)]):
            for man in ("ann", "zed", ""):
                self.are_refused(NoPages, GOOD, pages, man)
            with self.assertRaises(NoPages):
                when_earned(GOOD, pages, "zed", 0)

    def test_ranks_of_other_articles(self):
        self.are_refused(NoPages, ((("cook", 40, 1),), CHESTS, 28), PAGES, "ann")

    def test_no_man_ahead_of_faulty(self):
        faulty = PAGES + [("lost", 41, 35), leaves(5, "cid")]
        for pages in ([], PAGES, faulty):
            for man in ("", "zed", "an", "anna", "kin", "owner", "mate", "Ann", "x" * 4000, "a b\n"):
                self.are_refused(NoMan, GOOD, pages, man, of_pages=False)
                with self.assertRaises(NoMan):
                    when_earned(GOOD, pages, man, 0)

    def test_faulty_ahead_of_no_sum(self):
        faulty = PAGES + [leaves(5, "cid"), joins(1, "boy"), leaves(1)]
        for man, wanted in (("ann", (("ann", 1, "two"),)), ("cid", (("cid", 5, "turn"),))):
            self.are_refused(Faulty, GOOD, faulty, man, of_pages=False)
            for action, asked in OF_A_MAN + ((when_earned, (0,)), (when_earned, (-MOST,))):
                with self.assertRaises(Faulty) as caught:
                    action(GOOD, faulty, man, *asked)
                self.assertIs(type(caught.exception.faults), tuple)
                self.assertEqual(caught.exception.faults, wanted)

    def test_the_ships_faults_are_all_mens(self):
        faulty = PAGES + [("lost", 41, 35), leaves(5, "cid")]
        ship = (("", 40, "lost"), ("", 41, "lost"))
        for man, more in (("ann", ()), ("bob", ()), ("cid", (("cid", 5, "turn"),))):
            for action, asked in OF_A_MAN:
                with self.assertRaises(Faulty) as caught:
                    action(GOOD, faulty, man, *asked)
                self.assertEqual(caught.exception.faults, ship + more)

    def test_no_sum_last(self):
        with self.assertRaises(NoSum):
            when_earned(GOOD, PAGES, "ann", 0)


class HandedIn(unittest.TestCase):
    def test_is_the_same_afterwards(self):
        for seed in range(40):
            articles, pages = random_book(seed)
            before = copy.deepcopy((articles, pages))
            for man in ("ann", "bob", "lost", "zed"):
                telling(articles, pages, man)
            men(articles, pages), faults(articles, pages), are_pages(articles, pages)
            self.assertEqual((articles, pages), before)

    def test_is_the_same_where_refused(self):
        for pages in ([leaves(5), [], joins(3)], [joins(9), joins(3), joins(9)], [[joins(9)], joins(3)]):
            before = copy.deepcopy(pages)
            telling(GOOD, pages, "ann")
            self.assertFalse(are_pages(GOOD, pages))
            self.assertEqual(pages, before)

    def test_is_not_kept(self):
        pages = list(PAGES)
        before = telling(GOOD, pages, "ann")
        pages.remove(ranked(9))
        self.assertEqual(paid_days(GOOD, pages, "ann"), [(2, 3, "mate"), (7, 10, "mate"), (13, 19, "mate"), (22, 35, "boy")])
        pages.insert(0, ranked(9))
        self.assertEqual(telling(GOOD, pages, "ann"), before)
        pages.clear()
        self.assertEqual(men(GOOD, pages), [])
        self.assertEqual(faults(GOOD, pages), [])


class Told(unittest.TestCase):
    def test_lists_are_the_askers_own(self):
        faulty = PAGES + [leaves(5, "cid"), ("lost", 41, 35)]
        asked = [(action, (GOOD, PAGES, "ann")) for action in LISTS] + [(men, (GOOD, PAGES)), (faults, (GOOD, faulty))]
        for action, given in asked:
            with self.subTest(action=action):
                first = action(*given)
                wanted = list(first)
                self.assertNotEqual(wanted, [])
                other = action(*given)
                self.assertIsNot(first, other)
                first.append("more")
                first[0] = None
                self.assertEqual(other, wanted)
                self.assertEqual(action(*given), wanted)
                other.clear()
                self.assertEqual(action(*given), wanted)

    def test_empty_lists_too(self):
        for action, given in ((on_books, (GOOD, [away(1, 2)], "ann")), (paid_days, (GOOD, [away(1, 2)], "ann")),
                              (men, (GOOD, [])), (faults, (GOOD, []))):
            action(*given).append("more")
            self.assertEqual(action(*given), [])

    def test_lists_are_of_tuples(self):
        told = on_books(GOOD, PAGES, "ann") + paid_days(GOOD, PAGES, "ann") + faults(GOOD, [leaves(5), ("lost", 2, 1), ("lost", 1, 1)])
        self.assertEqual({type(row) for row in told}, {tuple})

    def test_the_same_asked_again(self):
        for man in ("ann", "bob", "zed"):
            self.assertEqual(telling(GOOD, PAGES, man), telling(GOOD, copy.deepcopy(PAGES), man))


class Orders(unittest.TestCase):
    def test_the_order_of_pages_makes_no_difference(self):
        for seed in range(40):
            articles, pages = random_book(seed)
            for man in ("ann", "bob", "lost", "zed"):
                told = [telling(articles, book, man) for book in in_orders(pages)]
                self.assertEqual(told, [told[0]] * len(told), (seed, man))
            told = [(men(articles, book), faults(articles, book)) for book in in_orders(pages)]
            self.assertEqual(told, [told[0]] * len(told), seed)

    def test_of_one_man_his_pages_and_the_ships_tell_alone(self):
        for seed in range(60):
            articles, pages = random_book(seed)
            for man in ("ann", "bob", "lost"):
                own = [page for page in pages if page[0] == "lost" or page[1] == man]
                self.assertEqual(telling(articles, own, man), telling(articles, pages, man), (seed, man))

    def test_a_lost_ships_pay_ends_for_all_alike(self):
        pages = [joins(day, "hand", man) for day, man in ((0, "ann"), (3, "bob"), (7, "cid"), (8, "dan"))] + [("lost", 12, 7)]
        for book in in_orders(pages):
            self.assertEqual([earned(GOOD, book, man, MOST) for man in men(GOOD, book)], [(240, 1), (150, 1), (30, 1), (0, 1)])


class FewSteps(unittest.TestCase):
    LIMIT = 100000

    def book(self, scale, month):
        """Articles and pages whose days and times are as great as the scale tells."""
        articles = ((("bit", 1, 1000), ("rich", 10 ** 9, 1)), CHESTS, month)
        pages = [joins(0, "bit"), away(scale // 10, scale // 5), ranked(scale // 4, "rich"), leaves(scale // 2),
                 joins(scale // 2 + 5, "bit"), ("lost", scale, scale - 1)]
        return articles, pages + [home(day, 10 ** 9, min(scale, 10 ** 6)) for day in (0, 1, scale // 3, scale)]

    def test_however_great_days_sums_and_times_are(self):
        for month in (1, 1000):
            small, great = self.book(100, month), self.book(FAR, month)
            for action in LISTS:
                most = steps(self.LIMIT, action, *small, "ann")
                self.assertLessEqual(steps(self.LIMIT, action, *great, "ann"), 2 * most + 100)
            for action in (earned, when_earned, had, sent_on, next_sent, left):
                most = steps(self.LIMIT, action, *small, "ann", 100)
                for asked in (1, FAR // 7, FAR, FAR + 10 ** 9, MOST):
                    self.assertLessEqual(steps(self.LIMIT, action, *great, "ann", asked), 2 * most + 100)
                if action != when_earned:
                    self.assertLessEqual(steps(self.LIMIT, action, *great, "ann", -MOST), 2 * most + 100)

    def test_two_hundred_pages(self):
        pages = [joins(10 ** 10 * at) for at in range(50)] + [leaves(10 ** 10 * at + 10 ** 9) for at in range(50)]
        pages += [away(10 ** 10 * at + 5, 10 ** 10 * at + 10 ** 8) for at in range(50)]
        pages += [home(at, 10 ** 9, 10 ** 6) for at in range(50)]
        for action in LISTS:
            steps(self.LIMIT, action, GOOD, pages, "ann")
        for action in (earned, when_earned, had, sent_on, next_sent, left):
            steps(self.LIMIT, action, GOOD, pages, "ann", MOST)
        for action in (men, faults):
            steps(self.LIMIT, action, GOOD, pages)
        steps(self.LIMIT, are_pages, GOOD, pages)
        steps(self.LIMIT, is_page, GOOD, ("home", "ann", FAR, 10 ** 9, 10 ** 6, "kin"))

    def test_the_count_itself(self):
        self.assertGreater(steps(self.LIMIT, men, GOOD, PAGES), 10)
        with self.assertRaises(AssertionError):
            steps(10, men, GOOD, PAGES)


if __name__ == "__main__":
    unittest.main()
