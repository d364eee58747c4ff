"""The first day over, and the room for more to be sent home (point 11).

A leg is a stretch of days in which the pay by the day, and the pages that send home, do not change.
From one sending of a leg to that a month later as much is earned, and as much is sent, as from any
other one: what is left changes by the same step. So a row (day, times, spare, step) tells of so many
drawing days, a month apart, what is left on each of them: spare on the first one, a step more on each
later one. Both are counted in parts of a penny, so many to the penny that each day's pay is whole.
"""

from crewpay.articles import rate_of
from crewpay.fractions import greatest_divisor
from crewpay.ledgers import left_at, sums_by_day
from crewpay.pages import SINGLE, pages_of
from crewpay.sendings import last_day, runs_within, sending_stretches, sum_of_runs, told_runs
from crewpay.turns import need_sound_man, paid_stretches, stretches_between, values_by_start


def parts_of_penny(articles):
    """The least number of parts of a penny by which what each rank earns in a day is whole."""
    parts = 1
    for rank, pence, days in articles[0]:
        parts = parts * days // greatest_divisor(parts, days)
    return parts


def pay_by_start(articles, pages, man, parts):
    """A dict that tells from which day on he earns how many parts of a penny a day."""
    stretches = []
    for first, last, rank in paid_stretches(pages, man):
        pence, days = rate_of(articles, rank)
        stretches.append((first, last, pence * (parts // days)))
    return values_by_start(stretches, 0)


def sending_by_start(pages, man):
    """A dict that tells from which day on sums can be sent home (1), or cannot (0)."""
    return values_by_start([(first, last, 1) for first, last in sending_stretches(pages, man)], 0)


def legs_of(articles, pages, man, parts, asked):
    """The legs (first, last, pay, singles, runs), rising, parted at the asked days, too.

    pay: the parts of a penny a day; singles: what is had on the first day but what is sent home;
    runs: what is sent home.
    """
    month = articles[2]
    pay_from, sends_from = pay_by_start(articles, pages, man, parts), sending_by_start(pages, man)
    singles = sums_by_day(pages, man, SINGLE)
    told = told_runs(pages, man, ("home",))
    run_days = [run[0] for run in told] + [last_day(run, month) + 1 for run in told]
    legs = []
    pay = sends = 0
    for first, last in stretches_between(list(pay_from) + list(sends_from) + list(singles) + run_days + asked):
        pay = pay_from.get(first, pay)
        sends = sends_from.get(first, sends)
        runs = runs_within(told, month, first, last) if sends == 1 else []
        legs.append((first, last, pay, singles.get(first, 0), runs))
    return legs


def rows_of_leg(leg, month, parts, spare, draws):
    """The rows of a leg ahead of which so much is spare; draws: whether its first day is one to be told of anyway."""
    first, last, pay, singles, runs = leg
    step = pay * month - parts * sum([run[2] for run in runs])
    days = [(run[0], run[1], run[2]) for run in runs] + ([(first, 1, 0)] if draws else [])
    rows = []
    had = singles
    # Of several on one day the last row has all of them taken off, and the others tell of more:
    # neither the least that is left nor the first day below 0 hangs on those.
    for day, times, pence in sorted(days):
        had += pence
        rows.append((day, times, spare + pay * (day - first + 1) - parts * had, step))
    return rows


def spare_rows(articles, pages, man, parts, asked):
    """The rows of all drawing days, and of the asked days, of a man without faults."""
    month = articles[2]
    draws = [page[2] for page in pages_of(pages, man, ("slops",))] + asked
    rows = []
    spare = 0
    for leg in legs_of(articles, pages, man, parts, asked):
        first, last, pay, singles, runs = leg
        rows += rows_of_leg(leg, month, parts, spare, first in draws)
        if last is not None:
            spare += pay * (last - first + 1) - parts * (singles + sum_of_runs(runs))
    return rows


def least_of_row(row):
    """The least that is left on the days of the row, in parts of a penny."""
    day, times, spare, step = row
    return spare + (times - 1) * min(0, step)


def first_short(row, month):
    """The first day of the row on which less than 0 is left, or None."""
    day, times, spare, step = row
    if least_of_row(row) >= 0:
        return None
    if spare < 0:
        return day
    return day + (spare // -step + 1) * month


def can_send(pages, man, day):
    """Whether sums can be sent home on the day for a man without faults."""
    return any([first <= day and (last is None or day <= last) for first, last in sending_stretches(pages, man)])


def room_at(articles, pages, man, day):
    """The room at the day of a man without faults."""
    if not can_send(pages, man, day):
        return 0
    parts = parts_of_penny(articles)
    rows = spare_rows(articles, pages, man, parts, [day])
    least = min([least_of_row(row) for row in rows if row[0] >= day])
    return max(0, least // parts)


def room(articles, pages, man, day):
    """The greatest sum that could be sent home on the day, too, with not less than 0 left from then on."""
    need_sound_man(articles, pages, man)
    return room_at(articles, pages, man, day)


def first_over(articles, pages, man):
    """The first drawing day at which less than 0 is left, and by how much: (day, by), or None."""
    need_sound_man(articles, pages, man)
    rows = spare_rows(articles, pages, man, parts_of_penny(articles), [])
    short = [first_short(row, articles[2]) for row in rows]
    day = min([found for found in short if found is not None], default=None)
    return None if day is None else (day, -left_at(articles, pages, man, day))
