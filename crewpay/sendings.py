"""What is sent home, as runs, so that no sending is gone through by itself (point 9).

A run (day, times, pence) is so many sendings of these pence, the first one on that day and each
later one a month behind the one ahead of it.
"""

from crewpay.fractions import rounded_up
from crewpay.pages import pages_of
from crewpay.turns import book_stretches, earlier, lost_on


def run_within(run, month, first, last):
    """What of the run is from the day first to the day last (None: no end); 0 times or fewer where nothing is."""
    day, times, pence = run
    skipped = max(0, rounded_up(first - day, month))
    if last is not None:
        times = min(times, (last - day) // month + 1)
    return (day + skipped * month, times - skipped, pence)


def runs_within(runs, month, first, last):
    """What of the runs is from the day first to the day last, or without end where that is None."""
    parts = [run_within(run, month, first, last) for run in runs]
    return [part for part in parts if part[1] > 0]


def sent_runs(articles, pages, man):
    """All that is sent home for a man without faults, as runs."""
    month = articles[2]
    told = [(page[2], page[4], page[3]) for page in pages_of(pages, man, ("home",))]
    runs = []
    for first, last in book_stretches(pages, man):
        runs += runs_within(told, month, first, earlier(last, lost_on(pages)))
    return runs


def sum_of_runs(runs):
    """The pence of all sendings of the runs together."""
    return sum([times * pence for day, times, pence in runs])
