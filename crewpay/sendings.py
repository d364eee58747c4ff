"""Sums that were had, as runs, so that no sending is gone through by itself (point 9).

A run (day, times, pence, word, bearer) is so many sums of these pence, the first one on that day and
each later one a month behind the one ahead of it. What is had but once is a run of one sum.
"""

from crewpay.fractions import rounded_up
from crewpay.pages import pages_of
from crewpay.turns import book_stretches, earlier, lost_on


def run_of(page):
    """The run that a page of an advance, of slops or of what is sent home tells."""
    times = page[4] if page[0] == "home" else 1
    return (page[2], times, page[3], page[0], page[-1])


def told_runs(pages, man, words):
    """The runs that the man's pages of these words tell, whether he is on the books or not."""
    return [run_of(page) for page in pages_of(pages, man, words)]


def run_within(run, month, first, last):
    """What of the run is from the day first to the day last (None: no end); 0 times or fewer where nothing is."""
    day, times, *rest = run
    skipped = max(0, rounded_up(first - day, month))
    if last is not None:
        times = min(times, (last - day) // month + 1)
    return (day + skipped * month, times - skipped, *rest)


def runs_within(runs, month, first, last):
    """What of the runs is from the day first to the day last, or without end where that is None."""
    parts = [run_within(run, month, first, last) for run in runs]
    return [part for part in parts if part[1] > 0]


def sending_stretches(pages, man):
    """The stretches (first, last) on which sums can be sent home for a man without faults, rising."""
    end = lost_on(pages)
    return [(first, earlier(last, end)) for first, last in book_stretches(pages, man) if end is None or first <= end]


def sent_runs(articles, pages, man):
    """All that is sent home for a man without faults, as runs."""
    told = told_runs(pages, man, ("home",))
    runs = []
    for first, last in sending_stretches(pages, man):
        runs += runs_within(told, articles[2], first, last)
    return runs


def last_day(run, month):
    """The day of the run's last sum."""
    return run[0] + (run[1] - 1) * month


def sum_of_runs(runs):
    """The pence of all sums of the runs together."""
    return sum([run[1] * run[2] for run in runs])
