"""What a man is paid off, and by whom the rest is borne (point 12)."""

from crewpay.fractions import whole_part
from crewpay.ledgers import earned_to, had_to
from crewpay.sendings import last_day, runs_within, sent_runs, sum_of_runs, told_runs
from crewpay.turns import need_sound_man


def taken_runs(articles, pages, man, day):
    """All that a man without faults had to the day but the fines, as runs."""
    runs = told_runs(pages, man, ("advance", "slops")) + sent_runs(articles, pages, man)
    # No page has a day below 0.
    return runs_within(runs, articles[2], 0, day)


def day_of_want(runs, month, wages):
    """The first day whose sums the wages, which do not meet all runs, do not meet, and what of them is left for it."""
    first = min([run[0] for run in runs])
    last = max([last_day(run, month) for run in runs])
    # By halves, so that days are not gone through one by one.
    while first < last:
        middle = (first + last) // 2
        early = runs_within(runs, month, first, middle)
        needed = sum_of_runs(early)
        if needed > wages:
            runs, last = early, middle
        else:
            wages -= needed
            runs, first = runs_within(runs, month, middle + 1, last), middle + 1
    return (first, wages)


def not_met(runs, month, wages):
    """What the wages, which do not meet all runs, do not meet: a list of (bearer, pence), bearers in any order."""
    day, wages = day_of_want(runs, month, wages)
    items = [(word, pence, bearer) for at, times, pence, word, bearer in runs_within(runs, month, day, day)]
    rows = []
    for word, pence, bearer in sorted(items):
        met = min(wages, pence)
        wages -= met
        rows.append((bearer, pence - met))
    return rows + [(run[4], run[1] * run[2]) for run in runs_within(runs, month, day + 1, None)]


def by_bearers(rows):
    """The rising list of (bearer, pence), each bearer once with all that it bears, above 0."""
    borne = {}
    for bearer, pence in rows:
        borne[bearer] = borne.get(bearer, 0) + pence
    return [(bearer, borne[bearer]) for bearer in sorted(borne) if borne[bearer] > 0]


def paid_off(articles, pages, man, day):
    """What the man is paid off at the day, what is put up for him, and by whom the rest is borne."""
    need_sound_man(articles, pages, man)
    wages = whole_part(earned_to(articles, pages, man, day))
    fines = had_to(articles, pages, man, day)[3]
    runs = taken_runs(articles, pages, man, day)
    rest = max(0, wages - fines)
    taken = sum_of_runs(runs)
    borne = by_bearers(not_met(runs, articles[2], rest)) if taken > rest else []
    return (max(0, rest - taken), max(0, fines - wages), borne)
