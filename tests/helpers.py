"""What several tests need: things of every kind, a slow book that goes day by day, a count of steps."""

import collections
import fractions
import os
import random
import sys

RANKS = (("boy", 0, 1), ("hand", 30, 1), ("mate", 480, 28))
CHESTS = (("church", 1), ("sick", 3))
GOOD = (RANKS, CHESTS, 28)
LETTERS = "abcdefghijklmnopqrstuvwxyz"
TURNS = ("joins", "ranked", "leaves")
# The last day that a page can have, and the greatest day or sum that can be asked for.
FAR = 10 ** 12
MOST = 10 ** 20 - 1
# The slow book tells nothing of later days; the random ones send nothing home behind it.
HORIZON = 160


def joins(day, rank="mate", man="ann"):
    return ("joins", man, day, rank)


def ranked(day, rank="hand", man="ann"):
    return ("ranked", man, day, rank)


def leaves(day, man="ann"):
    return ("leaves", man, day)


def away(first, last, man="ann"):
    return ("away", man, first, last)


def home(day, pence, times=1, bearer="kin", man="ann"):
    return ("home", man, day, pence, times, bearer)


def advance(day, pence, bearer="owner", man="ann"):
    return ("advance", man, day, pence, bearer)


def slops(day, pence, bearer="purser", man="ann"):
    return ("slops", man, day, pence, bearer)


def fine(day, pence, man="ann"):
    return ("fine", man, day, pence)


def nested(kind, depth, core):
    thing = core
    for step in range(depth):
        thing = kind((thing,))
    return thing


def small_things():
    """Things of every kind that point 2 names, within one another up to ten times."""
    plain = [
        None, True, False, 0, 1, 2, 3, 28, -1, 10 ** 9, 10 ** 20, -(10 ** 20),
        "", "a", "mate", "MATE", "mate ", "mate\n", "m4te", "abcdefghi", "x" * 4000, "mate=480/28 sick*3 28",
    ]
    things = plain + [(), [], ((),), [[]], ([],), [()]]
    things += [(thing,) for thing in plain] + [[thing] for thing in plain]
    things += [(one, other) for one in plain for other in plain]
    things += [(one, 1, other) for one in plain for other in plain]
    things += [nested(kind, depth, core) for kind in (list, tuple) for depth in range(1, 11) for core in (0, "a", GOOD)]
    return things


def swapped(thing, strange):
    """Every copy of the tuple thing in which one part, at any depth, is the strange one."""
    copies = [strange]
    if isinstance(thing, tuple):
        for at, part in enumerate(thing):
            copies += [thing[:at] + (other,) + thing[at + 1:] for other in swapped(part, strange)]
    return copies


def is_number(thing, least, most):
    return type(thing) is int and least <= thing <= most


def in_orders(pages):
    """The same pages in several orders."""
    return [list(pages), list(pages)[::-1], sorted(pages), random.Random(5).sample(pages, len(pages))]


def steps(most, action, *given):
    """How many rows of the package the action goes through; a failure where they are more than most."""
    counted = 0
    part = os.sep + "crewpay" + os.sep

    def rows(frame, event, told):
        nonlocal counted
        counted += event == "line"
        if counted > most:
            raise AssertionError(f"more than {most} steps")
        return rows

    def calls(frame, event, told):
        return rows if part in frame.f_code.co_filename else None

    before = sys.gettrace()
    sys.settrace(calls)
    try:
        action(*given)
    finally:
        sys.settrace(before)
    return counted


class SlowBook:
    """Points 6 to 12 said once more, in another way than the program says them: day by day, up to the horizon."""

    def __init__(self, articles, pages, horizon=HORIZON):
        self.horizon = horizon
        self.rates = {rank: fractions.Fraction(pence, days) for rank, pence, days in articles[0]}
        self.month = articles[2]
        self.book = list(pages)
        self.losses = [page for page in pages if page[0] == "lost"]
        self.days = {page: {page[2] + at * self.month for at in range(page[4])} for page in pages if page[0] == "home"}

    def names(self):
        return sorted({page[1] for page in self.book if page[0] != "lost"})

    def of(self, man, *words):
        return [page for page in self.book if page[0] in words and page[1] == man]

    def ship_faults(self):
        return {("", page[1], "lost") for page in self.losses} if len(self.losses) > 1 else set()

    def man_faults(self, man):
        turns = {}
        for page in self.of(man, *TURNS):
            turns.setdefault(page[2], []).append(page[0])
        several = {(man, day, "two") for day in turns if len(turns[day]) > 1}
        if several:
            return several
        found, state = set(), "off"
        for day in range(self.horizon):
            word = turns.get(day, ["none"])[0]
            if (state, word) in (("off", "ranked"), ("off", "leaves"), ("on", "joins")):
                found.add((man, day, "turn"))
            elif word != "none":
                state = "off" if word == "leaves" else "on"
        return found

    def faults(self):
        return sorted(self.ship_faults().union(*[self.man_faults(man) for man in self.names()]))

    def faults_for(self, man):
        return tuple(sorted(self.ship_faults() | self.man_faults(man)))

    def last_turn(self, man, day):
        turns = [page for page in self.of(man, *TURNS) if page[2] <= day]
        return max(turns, key=lambda page: page[2], default=None)

    def is_on(self, man, day):
        turn = self.last_turn(man, day)
        return turn is not None and turn[0] != "leaves"

    def rank_on(self, man, day):
        away = any(page[2] <= day <= page[3] for page in self.of(man, "away"))
        if away or not self.is_on(man, day) or any(day > page[2] for page in self.losses):
            return None
        return self.last_turn(man, day)[3]

    def sent_on(self, man, day):
        if not self.is_on(man, day) or any(day > page[1] for page in self.losses):
            return 0
        return sum(page[3] for page in self.of(man, "home") if day in self.days[page])

    def had_on(self, man, word, day):
        return sum(page[3] for page in self.of(man, word) if page[2] == day)

    def items(self, man, *words):
        """Each sum by itself, as (day, word, pence, bearer), in the order in which wages meet them."""
        found = [(page[2], page[0], page[3], page[-1]) for page in self.of(man, *words) if page[0] != "home"]
        for page in self.of(man, "home") if "home" in words else ():
            found += [(day, "home", page[3], page[5]) for day in self.days[page] if self.sent_on(man, day) > 0]
        return sorted(found)

    def room(self, man, day, told):
        """The room at a day, by what tell told of the man."""
        if not told.books[day] or any(day > page[1] for page in self.losses):
            return 0
        return max(0, min(told.left[at] for at in [day] + [at for at in told.draws if at > day]))

    def first_over(self, told):
        return next(((day, -told.left[day]) for day in told.draws if told.left[day] < 0), None)

    def paid_off(self, man, day, told):
        """What is paid, put up and borne, item by item."""
        purse = told.earned[day].numerator // told.earned[day].denominator
        put_up, borne = 0, collections.Counter()
        items = self.items(man, "fine") + self.items(man, "advance", "home", "slops")
        for at, word, pence, bearer in items:
            if at <= day:
                met = min(purse, pence)
                purse -= met
                put_up += pence - met if word == "fine" else 0
                borne[bearer] += 0 if word == "fine" else pence - met
        return (purse, put_up, sorted((bearer, pence) for bearer, pence in borne.items() if pence > 0))

    def tell(self, man):
        """All of a man without faults, each a list by days, so that it is gone through but once."""
        told = collections.namedtuple("Told", "books ranks earned sent had left draws")
        days = range(self.horizon)
        ranks = [self.rank_on(man, day) for day in days]
        sent = [self.sent_on(man, day) for day in days]
        earned, had = [], []
        total, sums = fractions.Fraction(0), (0, 0, 0, 0)
        for day in days:
            total += self.rates.get(ranks[day], 0)
            advance, slops, fine = [self.had_on(man, word, day) for word in ("advance", "slops", "fine")]
            sums = tuple(one + more for one, more in zip(sums, (advance, sent[day], slops, fine)))
            earned.append(total)
            had.append(sums)
        left = [earned[day].numerator // earned[day].denominator - sum(had[day]) for day in days]
        draws = sorted({item[0] for item in self.items(man, "home", "slops")})
        return told([self.is_on(man, day) for day in days], ranks, earned, sent, had, left, draws)


def stretches(values):
    """The values by days as rising (first, last, value); none for None and False, None for an end at HORIZON."""
    found = []
    for day, value in enumerate(values):
        if day > 0 and value == values[day - 1] and found and found[-1][1] == day - 1:
            found[-1] = (found[-1][0], day, value)
        elif value is not None and value is not False:
            found.append((day, day, value))
    return [(first, None if last == HORIZON - 1 else last, value) for first, last, value in found]


def random_articles(chance):
    names = sorted(chance.sample(("boy", "cook", "hand", "joins", "mate"), chance.randint(1, 4)))
    ranks = tuple((name, chance.choice((0, 1, 5, 30, 480)), chance.choice((1, 2, 7, 28))) for name in names)
    return (ranks, CHESTS, chance.randint(1, 9))


def random_turns(chance, articles, man):
    """Turns of a man, most of them without faults."""
    aboard, turns = False, []
    for day in sorted(chance.sample(range(30), chance.randint(0, 7))):
        words = ("leaves", "ranked") if aboard else ("joins",)
        word = chance.choice(TURNS if chance.random() < 0.05 else words)
        aboard = word != "leaves"
        for at in range(2 if chance.random() < 0.03 else 1):
            rank = chance.choice(articles[0])[0]
            turns.append((word, man, day) if word == "leaves" else (word, man, day, rank))
    return turns


def random_page(chance, articles, man):
    word = chance.choice(("away", "away", "home", "home", "advance", "slops", "fine"))
    day, pence, bearer = chance.randint(0, 40), chance.randint(1, 99), chance.choice(("kin", "purser"))
    if word == "away":
        return (word, man, day, day + chance.randint(0, 8))
    if word == "home":
        return (word, man, day, pence, chance.randint(1, 12), bearer)
    return (word, man, day, pence) if word == "fine" else (word, man, day, pence, bearer)


def long_book(seed):
    """Articles, and pages of ann, without faults, with long runs of sendings whose pay changes within them."""
    chance = random.Random(seed)
    month = chance.choice((1, 2, 7, 28))
    names = ("boy", "hand", "mate", "third")
    ranks = tuple((name, chance.randint(0, 40), chance.choice((1, 3, 7))) for name in names)
    pages, aboard = [joins(chance.randint(0, 20), chance.choice(names))], True
    for day in sorted(chance.sample(range(21, 900), chance.randint(0, 4))):
        word = chance.choice(("leaves", "ranked", "ranked")) if aboard else "joins"
        aboard = word != "leaves"
        pages.append((word, "ann", day, chance.choice(names)) if aboard else leaves(day))
    for at in range(chance.randint(1, 4)):
        times = chance.randint(1, 900 // month)
        pages.append(home(chance.randint(0, 900 - times * month + month), chance.randint(1, 20 * month), times, "kin" + LETTERS[at]))
    for at in range(chance.randint(0, 3)):
        word, day = chance.choice(("slops", "advance", "fine", "away")), chance.randint(0, 900)
        more = {"away": (day + chance.randint(0, 99),), "fine": (chance.randint(1, 999),)}
        pages.append((word, "ann", day) + more.get(word, (chance.randint(1, 999), "owner")))
    if chance.random() < 0.3:
        day = chance.randint(100, 900)
        pages.append(("lost", day, chance.randint(0, day)))
    pages = sorted(set(pages))
    chance.shuffle(pages)
    return (ranks, CHESTS, month), pages


def great_book(seed, scale=1):
    """Articles and 200 pages, 90 of them turns of ann without faults; all days as great as the scale tells."""
    chance = random.Random(seed)
    articles = ((("boy", 0, 1), ("hand", 30, 7), ("mate", 480, 28)), CHESTS, 4)
    days = sorted(chance.sample(range(400), 90))
    words = ("joins", "ranked", "leaves")
    pages = []
    for at, day in enumerate(days):
        rank = chance.choice(articles[0])[0]
        pages.append((words[at % 3], "ann", day * scale) + (() if at % 3 == 2 else (rank,)))
    while len(pages) < 200:
        man = chance.choice(("ann", "ann", "ann", "bob"))
        word, man, day, *rest = random_page(chance, articles, man)
        day += chance.randint(0, 360)
        page = (word, man, day * scale) + (((day + 3) * scale,) if word == "away" else tuple(rest))
        pages += [] if page in pages else [page]
    chance.shuffle(pages)
    return articles, pages


def random_book(seed):
    """Articles, and pages of three men, one of whom has a page's word for a name, in any order."""
    chance = random.Random(seed)
    articles = random_articles(chance)
    pages = []
    for man in ("ann", "bob", "lost"):
        pages += random_turns(chance, articles, man)
        pages += [random_page(chance, articles, man) for at in range(chance.randint(0, 8))]
    for at in range(chance.choice((0, 0, 0, 1, 1, 1, 1, 2, 3)) if chance.random() < 0.7 else 0):
        day = chance.randint(0, 40)
        pages.append(("lost", day, chance.randint(0, day)))
    pages = sorted(set(pages))
    chance.shuffle(pages)
    return articles, pages
