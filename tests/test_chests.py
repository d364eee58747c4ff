"""What the fines bring to each chest: point 13."""

import fractions
import random
import unittest

from crewpay.chests import chests_at, shared
from crewpay.errors import NoArticles, NoPages, NoSum
from helpers import FAR, GOOD, MOST, RANKS, fine, home, in_orders, joins, leaves, small_things, steps


def chested(*parts):
    """Articles with chests ca, cb, .. of these parts."""
    return (RANKS, tuple(("c" + letter, part) for letter, part in zip("abcdef", parts)), 28)


class Shared(unittest.TestCase):
    def are_shares(self, wanted, total, *parts):
        told = shared(chested(*parts), total)
        self.assertEqual([pence for chest, pence in told], wanted, (total, parts))
        self.assertEqual([chest for chest, pence in told], ["c" + letter for letter in "abcdef"[:len(parts)]])
        self.assertIs(type(told), list)
        self.assertTrue(all(type(row) is tuple and type(row[1]) is int for row in told))

    def test_nothing(self):
        self.are_shares([0], 0, 1)
        self.are_shares([0, 0, 0, 0, 0, 0], 0, 1, 2, 3, 4, 5, 6)

    def test_one_chest(self):
        for total in (1, 7, 10 ** 9, MOST):
            for part in (1, 3, 1000):
                self.are_shares([total], total, part)

    def test_parts_alike(self):
        self.are_shares([1, 0], 1, 1, 1)
        self.are_shares([1, 1], 2, 5, 5)
        self.are_shares([2, 1], 3, 1000, 1000)
        self.are_shares([1, 1, 0], 2, 7, 7, 7)
        self.are_shares([3, 3, 2, 2, 2, 2], 14, 1, 1, 1, 1, 1, 1)
        self.are_shares([1, 1, 1, 1, 1, 0], 5, 9, 9, 9, 9, 9, 9)

    def test_parts_unlike(self):
        # 1 of 4: 1/4 and 3/4; 2: 1/2 and 1 1/2; 3: 3/4 and 2 1/4.
        self.are_shares([0, 1], 1, 1, 3)
        self.are_shares([1, 1], 2, 1, 3)
        self.are_shares([1, 2], 3, 1, 3)
        self.are_shares([1, 3], 4, 1, 3)
        self.are_shares([0, 1], 1, 1, 1000)
        self.are_shares([1, 0], 1, 1000, 1)
        # 10 by 1, 2, 4: 1 3/7, 2 6/7, 5 5/7.
        self.are_shares([1, 3, 6], 10, 1, 2, 4)
        # 11 by 1, 2, 4: 1 4/7, 3 1/7, 6 2/7.
        self.are_shares([2, 3, 6], 11, 1, 2, 4)

    def test_the_greatest_rest_is_not_the_greatest_part(self):
        # 7 by 5, 3, 2: 3 1/2, 2 1/10, 1 4/10.
        self.are_shares([4, 2, 1], 7, 5, 3, 2)
        # 3 by 5, 3, 2: 1 1/2, 9/10, 6/10.
        self.are_shares([1, 1, 1], 3, 5, 3, 2)

    def test_rests_as_great_as_one_another(self):
        # 5 by 1, 1, 2, 2, 4: 1/2, 1/2, 1, 1, 2.
        self.are_shares([1, 0, 1, 1, 2], 5, 1, 1, 2, 2, 4)
        # 1 by 1, 2, 2, 1: a sixth, two, two, one.
        self.are_shares([0, 1, 0, 0], 1, 1, 2, 2, 1)
        self.are_shares([0, 1, 1, 0], 2, 1, 2, 2, 1)
        self.are_shares([1, 1, 1, 0], 3, 1, 2, 2, 1)

    def test_great_totals(self):
        self.are_shares([25 * 10 ** 18 - 0, 75 * 10 ** 18 - 1], MOST, 1, 3)
        third = 33333333333333333333
        self.are_shares([third, third, third], MOST, 1, 1, 1)
        self.are_shares([third + 1, third, third], 10 ** 20, 1, 1, 1)

    def test_as_fractions_tell(self):
        chance = random.Random(8)
        for at in range(400):
            parts = [chance.choice((1, 2, 3, 10, chance.randint(1, 1000))) for part in range(chance.randint(1, 6))]
            total = chance.choice((chance.randint(0, 30), chance.randint(0, MOST)))
            exact = [fractions.Fraction(total * part, sum(parts)) for part in parts]
            wanted = [share.numerator // share.denominator for share in exact]
            while sum(wanted) < total:
                # Each has at most one penny more: one that has it already lacks nothing.
                lacks = [share - whole for share, whole in zip(exact, wanted)]
                wanted[lacks.index(max(lacks))] += 1
            self.are_shares(wanted, total, *parts)
            self.assertEqual(sum(pence for chest, pence in shared(chested(*parts), total)), total)

    def test_no_sum_behind_no_articles(self):
        for total in (-1, -5, -MOST):
            with self.assertRaises(NoSum):
                shared(GOOD, total)
            with self.assertRaises(NoArticles):
                shared(None, total)
        for articles in small_things():
            with self.assertRaises(NoArticles):
                shared(articles, 5)

    def test_names_of_the_articles(self):
        self.assertEqual(shared(GOOD, 10), [("church", 3), ("sick", 7)])
        self.assertEqual(shared(total=10, articles=GOOD), [("church", 3), ("sick", 7)])


class ChestsAt(unittest.TestCase):
    def are_told(self, wanted, pages):
        for book in in_orders(pages):
            for day, total in wanted.items():
                with self.subTest(day=day, book=book):
                    self.assertEqual(chests_at(GOOD, book, day), shared(GOOD, total))

    def test_on_ahead_of_and_behind_the_day(self):
        pages = [fine(5, 8), fine(9, 16)]
        self.are_told({-MOST: 0, -1: 0, 0: 0, 4: 0, 5: 8, 8: 8, 9: 24, 10: 24, MOST: 24}, pages)
        self.assertEqual(chests_at(GOOD, pages, 9), [("church", 6), ("sick", 18)])

    def test_no_fines(self):
        self.are_told({-5: 0, 0: 0, MOST: 0}, [])
        self.are_told({0: 0, MOST: 0}, [joins(0), ("slops", "ann", 0, 5, "fine"), ("advance", "ann", 0, 5, "fine"), home(0, 5)])
        self.are_told({MOST: 0}, [("slops", "fine", 0, 5, "kin"), joins(5, "mate", "fine")])

    def test_fines_of_several_men(self):
        pages = [fine(5, 1), fine(5, 2), fine(5, 1, "bob"), fine(7, 10, "cid"), joins(0), joins(3, "boy", "bob")]
        self.are_told({4: 0, 5: 4, 6: 4, 7: 14, FAR: 14}, pages)

    def test_whatever_faults_there_are(self):
        pages = [fine(5, 1), joins(0), leaves(0), fine(5, 2, "bob"), leaves(3, "bob"), ("lost", 1, 1), ("lost", 2, 2), fine(9, 4)]
        self.are_told({4: 0, 5: 3, 8: 3, 9: 7, MOST: 7}, pages)

    def test_whether_met_or_not_and_behind_a_lost_ship(self):
        self.are_told({5: 10 ** 9, FAR: 10 ** 9 + 3}, [fine(5, 10 ** 9), fine(FAR, 3, "bob"), ("lost", 4, 4)])

    def test_fines_are_shared_together(self):
        # Each by itself would bring its only penny to the sick.
        pages = [fine(5, 1), fine(6, 1), fine(7, 1, "bob"), fine(8, 1)]
        self.assertEqual([chests_at(GOOD, pages, day)[0][1] for day in (5, 6, 7, 8)], [0, 1, 1, 1])

    def test_fines_go_to_the_chests_whole(self):
        pages = [fine(day, 7 * day + 1, man) for day in range(60) for man in ("ann", "bob", "cid")]
        for day in (0, 7, 30, 59, 100):
            total = sum(page[3] for page in pages if page[2] <= day)
            self.assertEqual(sum(pence for chest, pence in chests_at(GOOD, pages, day)), total)

    def test_refusals(self):
        for thing in small_things():
            with self.assertRaises(NoArticles):
                chests_at(thing, None, 5)
            if thing != []:
                with self.assertRaises(NoPages):
                    chests_at(GOOD, thing, 5)
        with self.assertRaises(NoPages):
            chests_at(GOOD, [fine(5, 1), fine(5, 1)], 5)

    def test_lists_are_the_askers_own(self):
        for action, given in ((shared, (GOOD, 8)), (chests_at, (GOOD, [fine(5, 8)], 5))):
            first, other = action(*given), action(*given)
            first.clear()
            self.assertEqual(other, [("church", 2), ("sick", 6)])
            other[0] = None
            self.assertEqual(action(*given), [("church", 2), ("sick", 6)])

    def test_arguments_by_name(self):
        self.assertEqual(chests_at(day=5, pages=[fine(5, 8)], articles=GOOD), [("church", 2), ("sick", 6)])

    def test_few_steps(self):
        articles = chested(1, 2, 3, 4, 5, 6)
        self.assertLessEqual(steps(10 ** 4, shared, articles, MOST), steps(10 ** 4, shared, articles, 5) + 20)


if __name__ == "__main__":
    unittest.main()
