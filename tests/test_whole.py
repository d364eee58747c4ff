"""Points 2 and 3, of all that is told by pages: refusals, what is handed in and told, orders, few steps."""

import copy
import fractions
import unittest

from crewpay.chests import chests_at
from crewpay.errors import Faulty, NoArticles, NoMan, NoPages, NoSum, WageError
from crewpay.ledgers import earned, had, left, next_sent, sent_on, when_earned
from crewpay.pages import are_pages, is_page, men
from crewpay.payoff import paid_off
from crewpay.rooms import first_over, room
from crewpay.turns import faults, on_books, paid_days
from helpers import (
    CHESTS, FAR, GOOD, MOST, SlowBook, away, great_book, home, in_orders, joins, leaves, ranked, random_book, small_things, steps,
)

# What is told of a man, and what is asked for beside him.
OF_A_MAN = (
    (on_books, ()), (paid_days, ()), (earned, (30,)), (when_earned, (30,)), (had, (30,)), (sent_on, (30,)),
    (next_sent, (30,)), (left, (30,)), (room, (30,)), (first_over, ()), (paid_off, (30,)),
)
OF_DAYS = (earned, had, sent_on, next_sent, left, room, paid_off)
OF_PAGES = (men, faults)
LISTS = (on_books, paid_days)
PAGES = [
    joins(2), ranked(9), leaves(20), joins(22, "boy"), away(4, 6), away(11, 12), home(3, 7, 5), ("advance", "ann", 0, 5, "owner"),
    ("slops", "ann", 8, 3, "purser"), ("fine", "ann", 25, 2), joins(1, "hand", "bob"), leaves(30, "bob"), home(2, 9, 50, man="bob"),
    ("lost", 40, 35),
]


def telling(articles, pages, man):
    """All that is told of a man, refusals included."""
    told = []
    for action, asked in OF_A_MAN:
        for more in ([()] if asked == () else [(number,) for number in (-1, 1, 5, 9, 21, 30, 100)]):
            try:
                told.append(action(articles, pages, man, *more))
            except WageError as refusal:
                told.append((type(refusal), getattr(refusal, "faults", None)))
    return told


class Refusals(unittest.TestCase):
    def are_refused(self, refusal, articles, pages, man, of_pages=True):
        for action, asked in OF_A_MAN:
            with self.subTest(action=action, articles=articles, pages=pages, man=man), self.assertRaises(refusal):
                action(articles, pages, man, *asked)
        for action in OF_PAGES if of_pages else ():
            with self.subTest(action=action, articles=articles, pages=pages), self.assertRaises(refusal):
                action(articles, pages)

    def test_no_articles_ahead_of_all_else(self):
        strange = small_things()[:28] + [list(GOOD), (GOOD[0], GOOD[1], 0), (GOOD[0], (), 28), GOOD + (1,)]
        for articles in strange:
            for pages in ([], PAGES, None, (), [()], [leaves(5)]):
                for man in ("ann", "zed", ""):
                    self.are_refused(NoArticles, articles, pages, man)
            with self.assertRaises(NoArticles):
                when_earned(articles, None, "zed", 0)

    def test_no_articles_of_anything(self):
        for articles in small_things():
            self.are_refused(NoArticles, articles, PAGES, "ann")

    def test_no_pages_of_anything(self):
        for pages in small_things():
            if pages != []:
                self.are_refused(NoPages, GOOD, pages, "ann")

    def test_no_pages_behind_no_articles_alone(self):
        many = [("fine", "ann", day, 1) for day in range(201)]
        for pages in (tuple(PAGES), PAGES + PAGES[:1], PAGES + [None], PAGES + [[]], [list(PAGES[0])], [PAGES], many,
                      PAGES + [joins(5, "cook", "bob")], PAGES + [("lost", 5, 6)], [leaves(5), leaves(5)], [leaves(True)]):
            for man in ("ann", "zed", ""):
                self.are_refused(NoPages, GOOD, pages, man)
            with self.assertRaises(NoPages):
                when_earned(GOOD, pages, "zed", 0)

    def test_ranks_of_other_articles(self):
        self.are_refused(NoPages, ((("cook", 40, 1),), CHESTS, 28), PAGES, "ann")

    def test_no_man_ahead_of_faulty(self):
        faulty = PAGES + [("lost", 41, 35), leaves(5, "cid")]
        for pages in ([], PAGES, faulty):
            for man in ("", "zed", "an", "anna", "kin", "owner", "mate", "Ann", "x" * 4000, "a b\n"):
                self.are_refused(NoMan, GOOD, pages, man, of_pages=False)
                with self.assertRaises(NoMan):
                    when_earned(GOOD, pages, man, 0)

    def test_faulty_ahead_of_no_sum(self):
        faulty = PAGES + [leaves(5, "cid"), joins(1, "boy"), leaves(1)]
        for man, wanted in (("ann", (("ann", 1, "two"),)), ("cid", (("cid", 5, "turn"),))):
            self.are_refused(Faulty, GOOD, faulty, man, of_pages=False)
            for action, asked in OF_A_MAN + ((when_earned, (0,)), (when_earned, (-MOST,))):
                with self.assertRaises(Faulty) as caught:
                    action(GOOD, faulty, man, *asked)
                self.assertIs(type(caught.exception.faults), tuple)
                self.assertEqual(caught.exception.faults, wanted)

    def test_the_ships_faults_are_all_mens(self):
        faulty = PAGES + [("lost", 41, 35), leaves(5, "cid")]
        ship = (("", 40, "lost"), ("", 41, "lost"))
        for man, more in (("ann", ()), ("bob", ()), ("cid", (("cid", 5, "turn"),))):
            for action, asked in OF_A_MAN:
                with self.assertRaises(Faulty) as caught:
                    action(GOOD, faulty, man, *asked)
                self.assertEqual(caught.exception.faults, ship + more)

    def test_no_sum_last(self):
        with self.assertRaises(NoSum):
            when_earned(GOOD, PAGES, "ann", 0)


class HandedIn(unittest.TestCase):
    def test_is_the_same_afterwards(self):
        for seed in range(40):
            articles, pages = random_book(seed)
            before = copy.deepcopy((articles, pages))
            for man in ("ann", "bob", "lost", "zed"):
                telling(articles, pages, man)
            men(articles, pages), faults(articles, pages), are_pages(articles, pages), chests_at(articles, pages, 20)
            self.assertEqual((articles, pages), before)

    def test_is_the_same_where_refused(self):
        for pages in ([leaves(5), [], joins(3)], [joins(9), joins(3), joins(9)], [[joins(9)], joins(3)]):
            before = copy.deepcopy(pages)
            telling(GOOD, pages, "ann")
            self.assertFalse(are_pages(GOOD, pages))
            self.assertEqual(pages, before)

    def test_is_not_kept(self):
        pages = list(PAGES)
        before = telling(GOOD, pages, "ann")
        pages.remove(ranked(9))
        self.assertEqual(paid_days(GOOD, pages, "ann"), [(2, 3, "mate"), (7, 10, "mate"), (13, 19, "mate"), (22, 35, "boy")])
        pages.insert(0, ranked(9))
        self.assertEqual(telling(GOOD, pages, "ann"), before)
        pages.clear()
        self.assertEqual(men(GOOD, pages), [])
        self.assertEqual(faults(GOOD, pages), [])


class Told(unittest.TestCase):
    def test_lists_are_the_askers_own(self):
        faulty = PAGES + [leaves(5, "cid"), ("lost", 41, 35)]
        asked = [(action, (GOOD, PAGES, "ann")) for action in LISTS] + [(men, (GOOD, PAGES)), (faults, (GOOD, faulty))]
        for action, given in asked:
            with self.subTest(action=action):
                first = action(*given)
                wanted = list(first)
                self.assertNotEqual(wanted, [])
                other = action(*given)
                self.assertIsNot(first, other)
                first.append("more")
                first[0] = None
                self.assertEqual(other, wanted)
                self.assertEqual(action(*given), wanted)
                other.clear()
                self.assertEqual(action(*given), wanted)

    def test_empty_lists_too(self):
        for action, given in ((on_books, (GOOD, [away(1, 2)], "ann")), (paid_days, (GOOD, [away(1, 2)], "ann")),
                              (men, (GOOD, [])), (faults, (GOOD, []))):
            action(*given).append("more")
            self.assertEqual(action(*given), [])

    def test_lists_are_of_tuples(self):
        told = on_books(GOOD, PAGES, "ann") + paid_days(GOOD, PAGES, "ann") + faults(GOOD, [leaves(5), ("lost", 2, 1), ("lost", 1, 1)])
        self.assertEqual({type(row) for row in told}, {tuple})

    def test_the_same_asked_again(self):
        for man in ("ann", "bob", "zed"):
            self.assertEqual(telling(GOOD, PAGES, man), telling(GOOD, copy.deepcopy(PAGES), man))


class Orders(unittest.TestCase):
    def test_the_order_of_pages_makes_no_difference(self):
        for seed in range(40):
            articles, pages = random_book(seed)
            for man in ("ann", "bob", "lost", "zed"):
                told = [telling(articles, book, man) for book in in_orders(pages)]
                self.assertEqual(told, [told[0]] * len(told), (seed, man))
            told = [(men(articles, book), faults(articles, book), chests_at(articles, book, 20)) for book in in_orders(pages)]
            self.assertEqual(told, [told[0]] * len(told), seed)

    def test_of_one_man_his_pages_and_the_ships_tell_alone(self):
        for seed in range(60):
            articles, pages = random_book(seed)
            for man in ("ann", "bob", "lost"):
                own = [page for page in pages if page[0] == "lost" or page[1] == man]
                self.assertEqual(telling(articles, own, man), telling(articles, pages, man), (seed, man))

    def test_a_lost_ships_pay_ends_for_all_alike(self):
        pages = [joins(day, "hand", man) for day, man in ((0, "ann"), (3, "bob"), (7, "cid"), (8, "dan"))] + [("lost", 12, 7)]
        for book in in_orders(pages):
            self.assertEqual([earned(GOOD, book, man, MOST) for man in men(GOOD, book)], [(240, 1), (150, 1), (30, 1), (0, 1)])


def renamed(thing):
    """The thing with each name in it made another one, so that their order stays."""
    if isinstance(thing, str):
        return thing if thing == "" else "q" + thing
    if isinstance(thing, (list, tuple)):
        return type(thing)(renamed(part) for part in thing)
    return thing


def renamed_page(page):
    return page[:1] + renamed(page[1:])


def later(page, by):
    """The page with each of its days later by so many."""
    if page[0] == "lost":
        return ("lost", page[1] + by, page[2] + by)
    if page[0] == "away":
        return page[:2] + (page[2] + by, page[3] + by)
    return page[:2] + (page[2] + by,) + page[3:]


def shifted(told, by):
    """What is told of days, with each of them later by so many; None is no day."""
    if told is None:
        return None
    if isinstance(told, int):
        return told + by
    if isinstance(told, list):
        return [shifted(row, by) for row in told]
    return tuple(part if part is None or isinstance(part, str) else part + by for part in told)


class OtherNamesAndDays(unittest.TestCase):
    def sound_men(self, seed):
        articles, pages = random_book(seed)
        slow = SlowBook(articles, pages)
        return articles, pages, [man for man in slow.names() if not slow.faults_for(man)]

    def test_all_names_exchanged(self):
        for seed in range(60):
            articles, pages, sound = self.sound_men(seed)
            others, book = renamed(articles), [renamed_page(page) for page in pages]
            self.assertTrue(are_pages(others, book))
            self.assertEqual(men(others, book), renamed(men(articles, pages)))
            self.assertEqual(faults(others, book), [(renamed(man), day, word) for man, day, word in faults(articles, pages)])
            self.assertEqual(chests_at(others, book, 25), renamed(chests_at(articles, pages, 25)))
            for man in sound:
                self.assertEqual(telling(others, book, renamed(man)), renamed(telling(articles, pages, man)), (seed, man))

    def test_all_days_later(self):
        for seed in range(60):
            articles, pages, sound = self.sound_men(seed)
            for by in (1, 37, 10 ** 11):
                book = [later(page, by) for page in pages]
                self.assertEqual(faults(articles, book), [(man, day + by, word) for man, day, word in faults(articles, pages)])
                self.assertEqual(chests_at(articles, book, 25 + by), chests_at(articles, pages, 25))
                for man in sound:
                    for action in (on_books, paid_days):
                        self.assertEqual(action(articles, book, man), shifted(action(articles, pages, man), by))
                    over = first_over(articles, pages, man)
                    self.assertEqual(first_over(articles, book, man), over and (over[0] + by, over[1]))
                    self.assertEqual(when_earned(articles, book, man, 30), shifted(when_earned(articles, pages, man, 30), by))
                    for day in (-3, 0, 9, 22, 41, 100):
                        self.assertEqual(next_sent(articles, book, man, day + by), shifted(next_sent(articles, pages, man, day), by))
                        for action in (earned, had, sent_on, left, room, paid_off):
                            self.assertEqual(action(articles, book, man, day + by), action(articles, pages, man, day), (seed, man))


class GreatBooks(unittest.TestCase):
    def test_two_hundred_pages_and_ninety_turns_as_the_slow_book(self):
        for seed in range(4):
            articles, pages = great_book(seed)
            self.assertEqual(len(pages), 200)
            slow = SlowBook(articles, pages, 500)
            told = slow.tell("ann")
            self.assertEqual(first_over(articles, pages, "ann"), slow.first_over(told))
            for day in range(seed, 500, 12):
                with self.subTest(seed=seed, day=day):
                    self.assertEqual(fractions.Fraction(*earned(articles, pages, "ann", day)), told.earned[day])
                    self.assertEqual(had(articles, pages, "ann", day), told.had[day])
                    self.assertEqual(left(articles, pages, "ann", day), told.left[day])
                    self.assertEqual(room(articles, pages, "ann", day), slow.room("ann", day, told))
                    self.assertEqual(paid_off(articles, pages, "ann", day), slow.paid_off("ann", day, told))

    def test_forty_times_behind_one_another_in_few_steps(self):
        scale = 10 ** 9
        articles, pages = great_book(7, scale)
        for at in range(40):
            for action in (room, paid_off):
                steps(100000, action, articles, pages, "ann", at * 10 * scale)
            steps(100000, first_over, articles, pages, "ann")


class FewSteps(unittest.TestCase):
    LIMIT = 300000

    def book(self, scale, month):
        """Articles and pages whose days and times are as great as the scale tells."""
        articles = ((("bit", 1, 1000), ("rich", 10 ** 9, 1)), CHESTS, month)
        pages = [joins(0, "bit"), away(scale // 10, scale // 5), ranked(scale // 4, "rich"), leaves(scale // 2),
                 joins(scale // 2 + 5, "bit"), ("lost", scale, scale - 1)]
        return articles, pages + [home(day, 10 ** 9, min(scale, 10 ** 6)) for day in (0, 1, scale // 3, scale)]

    def test_however_great_days_sums_and_times_are(self):
        for month in (1, 1000):
            small, great = self.book(100, month), self.book(FAR, month)
            for action in LISTS:
                most = steps(self.LIMIT, action, *small, "ann")
                self.assertLessEqual(steps(self.LIMIT, action, *great, "ann"), 2 * most + 100)
            most = steps(self.LIMIT, first_over, *small, "ann")
            self.assertLessEqual(steps(self.LIMIT, first_over, *great, "ann"), 2 * most + 100)
            for action in (*OF_DAYS, when_earned):
                most = steps(self.LIMIT, action, *small, "ann", 100)
                # Halving goes on for longer where days are greater, but for a few dozen steps only.
                most = 10 ** 4 if action == paid_off else 2 * most + 100
                for asked in (1, FAR // 7, FAR, FAR + 10 ** 9, MOST):
                    self.assertLessEqual(steps(self.LIMIT, action, *great, "ann", asked), most)
                if action != when_earned:
                    self.assertLessEqual(steps(self.LIMIT, action, *great, "ann", -MOST), most)

    def test_two_hundred_pages(self):
        pages = [joins(10 ** 10 * at) for at in range(50)] + [leaves(10 ** 10 * at + 10 ** 9) for at in range(50)]
        pages += [away(10 ** 10 * at + 5, 10 ** 10 * at + 10 ** 8) for at in range(50)]
        pages += [home(at, 10 ** 9, 10 ** 6) for at in range(50)]
        for action in LISTS:
            steps(self.LIMIT, action, GOOD, pages, "ann")
        for action in (*OF_DAYS, when_earned):
            steps(self.LIMIT, action, GOOD, pages, "ann", MOST)
        steps(self.LIMIT, first_over, GOOD, pages, "ann")
        for action in (men, faults):
            steps(self.LIMIT, action, GOOD, pages)
        steps(self.LIMIT, are_pages, GOOD, pages)
        steps(self.LIMIT, is_page, GOOD, ("home", "ann", FAR, 10 ** 9, 10 ** 6, "kin"))

    def test_the_count_itself(self):
        self.assertGreater(steps(self.LIMIT, men, GOOD, PAGES), 10)
        with self.assertRaises(AssertionError):
            steps(10, men, GOOD, PAGES)


if __name__ == "__main__":
    unittest.main()
