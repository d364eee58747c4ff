"""Two books held against one another, by man and day (point 14)."""

from crewpay.ledgers import sums_by_day
from crewpay.pages import SINGLE, need_pages
from crewpay.sendings import last_day, sent_runs
from crewpay.turns import need_man, need_no_faults, paid_stretches, stretches_between, values_by_start


def need_sound_books(articles, one, other, man):
    """Refuse what is no articles, no pages, no man of whom either book tells; then faults, the first book's first."""
    need_pages(articles, one)
    need_pages(articles, other)
    need_man(one + other, man)
    need_no_faults(one, man)
    need_no_faults(other, man)


def rank_rows(one, other, man):
    """The stretches (first, last, rank, other) on which a man without faults is paid by unlike ranks, rising."""
    from_one = values_by_start(paid_stretches(one, man), "")
    from_other = values_by_start(paid_stretches(other, man), "")
    rows = []
    rank = rank_of_other = ""
    # At each of these days a rank changes, as paid stretches with like ranks have a gap between them: no pair goes on.
    for first, last in stretches_between(list(from_one) + list(from_other)):
        rank = from_one.get(first, rank)
        rank_of_other = from_other.get(first, rank_of_other)
        if rank != rank_of_other:
            rows.append((first, last, rank, rank_of_other))
    return rows


def single_rows(one, other, man, word):
    """The rows (day, 1, word, sum, other) of days at which what he had by pages of this word is unlike."""
    sums, others = sums_by_day(one, man, (word,)), sums_by_day(other, man, (word,))
    rows = [(day, 1, word, sums.get(day, 0), others.get(day, 0)) for day in sorted(set(list(sums) + list(others)))]
    return [row for row in rows if row[3] != row[4]]


def signed_runs(articles, one, other, man):
    """What is sent home in both books, as (first, end, sum, sum in the other one), end a month behind the last day."""
    month = articles[2]
    rows = [(run[0], last_day(run, month) + month, run[2], 0) for run in sent_runs(articles, one, man)]
    return rows + [(run[0], last_day(run, month) + month, 0, run[2]) for run in sent_runs(articles, other, man)]


def changes_of_sendings(articles, one, other, man):
    """A dict of how both books' sums sent change against a month earlier, by (day within the month, day)."""
    month = articles[2]
    changes = {}
    for first, end, more, more_in_other in signed_runs(articles, one, other, man):
        for day, sign in ((first, 1), (end, -1)):
            change, change_in_other = changes.get((day % month, day), (0, 0))
            changes[(day % month, day)] = (change + sign * more, change_in_other + sign * more_in_other)
    return changes


def home_rows(articles, one, other, man):
    """The rows (day, times, "home", sum, other) of days, a month apart, at which unlike sums are sent."""
    changes = changes_of_sendings(articles, one, other, man)
    places = sorted([place for place in changes if changes[place] != (0, 0)])
    rows = []
    pence = pence_of_other = 0
    # Behind the last change of one day within the month both sums are 0, and so alike, up to the next one's first.
    for place, later in zip(places, places[1:]):
        pence += changes[place][0]
        pence_of_other += changes[place][1]
        if pence != pence_of_other:
            rows.append((place[1], (later[1] - place[1]) // articles[2], "home", pence, pence_of_other))
    return rows


def sum_rows(articles, one, other, man):
    """The rows (day, times, word, sum, other) of all that a man without faults had otherwise, rising."""
    rows = home_rows(articles, one, other, man)
    for word in SINGLE:
        rows += single_rows(one, other, man, word)
    return sorted(rows)


def ranks_unlike(articles, one, other, man):
    """The stretches (first, last, rank, other) on which the man is paid by unlike ranks, rising."""
    need_sound_books(articles, one, other, man)
    return rank_rows(one, other, man)


def sums_unlike(articles, one, other, man):
    """The rows (day, times, word, sum, other) of what the man had otherwise, rising."""
    need_sound_books(articles, one, other, man)
    return sum_rows(articles, one, other, man)


def first_unlike(articles, one, other, man):
    """The first day at which the books tell unlike things of the man, or None."""
    need_sound_books(articles, one, other, man)
    rows = rank_rows(one, other, man) + sum_rows(articles, one, other, man)
    return min([row[0] for row in rows], default=None)
