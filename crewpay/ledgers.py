"""What a man earned, what he had, and what is left (points 8, 9 and 10)."""

from crewpay.articles import rate_of
from crewpay.errors import NoSum
from crewpay.fractions import added, lowest, rounded_up, whole_part
from crewpay.pages import SINGLE, pages_of
from crewpay.sendings import runs_within, sent_runs, sum_of_runs
from crewpay.turns import cut_at, need_sound_man, paid_stretches


def pay_of(articles, stretch):
    """The fraction of pence that a stretch with an end earns."""
    first, last, rank = stretch
    pence, days = rate_of(articles, rank)
    return lowest(pence * (last - first + 1), days)


def earned_to(articles, pages, man, day):
    """What a man without faults earned to the day, with it."""
    total = (0, 1)
    for stretch in cut_at(paid_stretches(pages, man), day):
        total = added(total, pay_of(articles, stretch))
    return total


def day_of_earning(articles, stretch, lacking):
    """The first day of the stretch to which it earns what is lacking, a fraction above 0, or None."""
    first, last, rank = stretch
    pence, days = rate_of(articles, rank)
    if pence == 0:
        return None
    day = first + rounded_up(lacking[0] * days, lacking[1] * pence) - 1
    return day if last is None or day <= last else None


def earned(articles, pages, man, day):
    """What the man earned to the day, with it: a fraction."""
    need_sound_man(articles, pages, man)
    return earned_to(articles, pages, man, day)


def when_earned(articles, pages, man, pence):
    """The first day to which the man earned so many pence, or more; None where there is none."""
    need_sound_man(articles, pages, man)
    if pence < 1:
        raise NoSum("pence are from 1 on")
    lacking = (pence, 1)
    for stretch in paid_stretches(pages, man):
        day = day_of_earning(articles, stretch, lacking)
        # Behind a stretch without end there is no other one.
        if day is not None or stretch[1] is None:
            return day
        top, bottom = pay_of(articles, stretch)
        lacking = added(lacking, (-top, bottom))
    return None


def had_by(pages, man, word, day):
    """What the man had to the day by pages of this word, each on its own day."""
    return sum([page[3] for page in pages_of(pages, man, (word,)) if page[2] <= day])


def sums_by_day(pages, man, words):
    """A dict of what the man had on each day by pages of these words, each on its own day."""
    sums = {}
    for page in pages_of(pages, man, words):
        sums[page[2]] = sums.get(page[2], 0) + page[3]
    return sums


def sent_to(articles, pages, man, day):
    """What is sent home to the day, with it, for a man without faults."""
    # No page has a day below 0.
    return sum_of_runs(runs_within(sent_runs(articles, pages, man), articles[2], 0, day))


def had_to(articles, pages, man, day):
    """What a man without faults had to the day, with it: (advances, home, slops, fines)."""
    home = sent_to(articles, pages, man, day)
    advances, slops, fines = [had_by(pages, man, word, day) for word in SINGLE]
    return (advances, home, slops, fines)


def had(articles, pages, man, day):
    """What the man had to the day, with it: a tuple (advances, home, slops, fines)."""
    need_sound_man(articles, pages, man)
    return had_to(articles, pages, man, day)


def sent_on(articles, pages, man, day):
    """What is sent home on just that day."""
    need_sound_man(articles, pages, man)
    return sum_of_runs(runs_within(sent_runs(articles, pages, man), articles[2], day, day))


def next_sent(articles, pages, man, day):
    """The first day, from that one on, at which something is sent home; None where there is none."""
    need_sound_man(articles, pages, man)
    runs = runs_within(sent_runs(articles, pages, man), articles[2], day, None)
    return min([run[0] for run in runs], default=None)


def left_at(articles, pages, man, day):
    """What is left at the day of a man without faults."""
    return whole_part(earned_to(articles, pages, man, day)) - sum(had_to(articles, pages, man, day))


def left(articles, pages, man, day):
    """The whole part of what the man earned to the day, less all that he had to it."""
    need_sound_man(articles, pages, man)
    return left_at(articles, pages, man, day)
