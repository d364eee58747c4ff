"""Joining and leaving: faults, days on the books, and paid days (points 6 and 7).

A stretch of days has a first and a last day; the last one is None where there is no end.
"""

from crewpay.errors import Faulty, NoMan
from crewpay.pages import lost_pages, names_in, need_pages, pages_of

TURNS = ("joins", "ranked", "leaves")


def turns_of(pages, man):
    """The turns of the man by days."""
    return sorted(pages_of(pages, man, TURNS), key=lambda turn: turn[2])


def double_days(turns):
    """The days, each once, on which two or more of these turns, which stand by days, are."""
    days = [turn[2] for turn in turns]
    return sorted({day for day, later in zip(days, days[1:]) if day == later})


def wrong_days(turns):
    """The days of turns that cannot be, of turns that stand by days, one on each."""
    days = []
    aboard = False
    for turn in turns:
        # To join one must be off the books, for all else on them.
        if aboard == (turn[0] == "joins"):
            days.append(turn[2])
        else:
            aboard = turn[0] != "leaves"
    return days


def faults_of_man(pages, man):
    """The faults of the man's turns, rising."""
    turns = turns_of(pages, man)
    double = double_days(turns)
    if double:
        return [(man, day, "two") for day in double]
    return [(man, day, "turn") for day in wrong_days(turns)]


def faults_of_ship(pages):
    """The faults of the ship, rising: it can be lost but once."""
    days = [page[1] for page in lost_pages(pages)]
    if len(days) < 2:
        return []
    return [("", day, "lost") for day in sorted(set(days))]


def faults(articles, pages):
    """The faults of the ship and of all men, rising."""
    need_pages(articles, pages)
    # The ship's, told of "", are ahead of those of any name.
    found = faults_of_ship(pages)
    for man in names_in(pages):
        found += faults_of_man(pages, man)
    return found


def need_man(pages, man):
    """Refuse a man of whom the pages do not tell."""
    if man not in names_in(pages):
        raise NoMan("no page tells of such a man")


def need_no_faults(pages, man):
    """Refuse faults of the man and of the ship."""
    found = faults_of_ship(pages) + faults_of_man(pages, man)
    if found:
        raise Faulty(tuple(found))


def need_sound_man(articles, pages, man):
    """Refuse what is no articles, no pages, no man of whom they tell; then faults, his and the ship's."""
    need_pages(articles, pages)
    need_man(pages, man)
    need_no_faults(pages, man)


def earlier(one, other):
    """The earlier one of two last days; None is later than any day."""
    if one is None:
        return other
    if other is None:
        return one
    return min(one, other)


def lost_on(pages):
    """The day on which the ship was lost, or None; the ship has no fault."""
    return min([page[1] for page in lost_pages(pages)], default=None)


def pay_runs_to(pages):
    """The day to which a lost ship's pay runs, or None; the ship has no fault."""
    return min([page[2] for page in lost_pages(pages)], default=None)


def ranked_stretches(pages, man):
    """The stretches (first, last, rank) from each turn to the next one, of a man without faults."""
    turns = turns_of(pages, man)
    ends = [turn[2] - 1 for turn in turns[1:]] + [None]
    return [(turn[2], end, turn[3]) for turn, end in zip(turns, ends) if turn[0] != "leaves"]


def book_stretches(pages, man):
    """The stretches (first, last) on which a man without faults is on the books, rising."""
    stretches = []
    for turn in turns_of(pages, man):
        if turn[0] == "joins":
            stretches.append((turn[2], None))
        elif turn[0] == "leaves":
            stretches[-1] = (stretches[-1][0], turn[2] - 1)
    return stretches


def cut_at(stretches, end):
    """What of the stretches is no later than the day end; all of them where it is None."""
    return [(first, earlier(last, end), rank) for first, last, rank in stretches if end is None or first <= end]


def without_days(stretches, gone, back):
    """What of the stretches is ahead of the day gone, or from the day back on."""
    kept = []
    for first, last, rank in stretches:
        if first < gone:
            kept.append((first, earlier(last, gone - 1), rank))
        if last is None or last >= back:
            kept.append((max(first, back), last, rank))
    return kept


def neighbours_joined(stretches):
    """The rising stretches, those with like ranks that follow one another without a gap made one."""
    joined = []
    for first, last, rank in stretches:
        if joined and joined[-1][1:] == (first - 1, rank):
            joined[-1] = (joined[-1][0], last, rank)
        else:
            joined.append((first, last, rank))
    return joined


def paid_stretches(pages, man):
    """The stretches (first, last, rank) on which a man without faults is paid, rising."""
    stretches = cut_at(ranked_stretches(pages, man), pay_runs_to(pages))
    for page in pages_of(pages, man, ("away",)):
        stretches = without_days(stretches, page[2], page[3] + 1)
    return neighbours_joined(stretches)


def values_by_start(stretches, none):
    """A dict that tells from which day on which value of stretches (first, last, value) holds, none between them."""
    values = {last + 1: none for first, last, value in stretches if last is not None}
    # Where one stretch follows another without a gap, the later one's value holds.
    for first, last, value in stretches:
        values[first] = value
    return values


def stretches_between(days):
    """The stretches (first, last) from each of the days to the one ahead of the next, the last one without end."""
    starts = sorted(set(days))
    return list(zip(starts, [start - 1 for start in starts[1:]] + [None]))


def on_books(articles, pages, man):
    """The stretches (first, last) on which the man is on the books, rising."""
    need_sound_man(articles, pages, man)
    return book_stretches(pages, man)


def paid_days(articles, pages, man):
    """The stretches (first, last, rank) on which the man is paid, rising."""
    need_sound_man(articles, pages, man)
    return paid_stretches(pages, man)
