"""The file of the parts: its entries, what is known by the first of them, and what was posted."""

FOUND = 0
MENDED = 1
STRUCK = 2
PUT_RIGHT = 3

NO_SOURCE = -1

DAYS_IN_SIGHT = 131072
NOT_IN_SIGHT = -1


class Entry:
    def __init__(self, kind, part, day, crack, about):
        self.kind = kind
        self.part = part
        self.day = day
        self.crack = crack
        # The earlier entry that is struck or put right; the other kinds don't use it.
        self.about = about


# What the entries that count let one know of one part on one day.
class Known:
    def __init__(self, source, crack, bears):
        self.source = source
        self.crack = crack
        self.bears = bears


class Records:
    def __init__(self, parts):
        # Of each part: what it bears when it's sound, what a unit of its crack costs, how it grows.
        self.parts = parts
        self.today = 0
        self.entries = []
        # Of each posting: the day, what was posted.
        self.postings = []

    def enter_crack(self, kind, part, day, crack):
        return self.enter(Entry(kind, part, day, crack, NO_SOURCE))

    def enter_change(self, kind, about, crack):
        earlier = self.entries[about]
        return self.enter(Entry(kind, earlier.part, earlier.day, crack, about))

    def enter(self, entry):
        self.entries.append(entry)
        return len(self.entries) - 1

    # A dict from each entry that counts by the first n to the crack that it then says.
    # Its keys rise, for an entry that's put right keeps its place.
    def counting(self, n):
        says = {}
        for number, entry in enumerate(self.entries[:n]):
            if entry.kind == STRUCK:
                says.pop(entry.about)
            elif entry.kind == PUT_RIGHT:
                says[entry.about] = entry.crack
            else:
                says[number] = entry.crack
        return says

    def counting_now(self):
        return self.counting(len(self.entries))

    def sources_on(self, says, day):
        sources = [NO_SOURCE] * len(self.parts)
        for number in says:
            entry = self.entries[number]
            source = sources[entry.part]
            # Of one day the one made last is meant, and that comes later here.
            if entry.day <= day and (source == NO_SOURCE or entry.day >= self.entries[source].day):
                sources[entry.part] = number
        return sources

    def known_on(self, says, day):
        sources = self.sources_on(says, day)
        return [self.known_by(says, part, source, day) for part, source in enumerate(sources)]

    def known_by(self, says, part, source, day):
        sound = self.parts[part][0]
        cost = self.parts[part][1]
        crack = self.crack_by(says, part, source, day)
        return Known(source, crack, max(0, sound - cost * crack))

    def crack_by(self, says, part, source, day):
        if source == NO_SOURCE:
            return self.grown(part, day)
        return says[source] + self.grown(part, day - self.entries[source].day)

    def grown(self, part, days):
        growth = self.parts[part][2]
        return (growth * days + 99) // 100

    def all_bear(self, says, day):
        return [known.bears for known in self.known_on(says, day)]

    def limit_on(self, says, day):
        return min(self.all_bear(says, day))

    # All entries are of today or earlier days, so from today on cracks only grow and the
    # limit never rises: the first day below is found by halving.
    def days_till_below(self, much):
        says = self.counting_now()
        soonest = 0
        latest = DAYS_IN_SIGHT - 1
        if self.limit_on(says, self.today + latest) >= much:
            return NOT_IN_SIGHT
        while soonest < latest:
            middle = (soonest + latest) // 2
            if self.limit_on(says, self.today + middle) < much:
                latest = middle
            else:
                soonest = middle + 1
        return soonest

    def last_days_found(self):
        days = [0] * len(self.parts)
        for number in self.counting_now():
            entry = self.entries[number]
            if entry.kind == FOUND:
                days[entry.part] = max(days[entry.part], entry.day)
        return days

    def due_parts(self, days):
        return [part for part, day in enumerate(self.last_days_found()) if self.today - day > days]

    # The postings stand in the order of their days, and there's always one of the day 0.
    def posted_on(self, day):
        return [limit for posted_day, limit in self.postings if posted_day <= day][-1]

    # Pairs of such a day and how much too much was posted on it.
    def wrong_days(self, first, last):
        says = self.counting_now()
        wrong = []
        for day in range(first, last + 1):
            excess = self.posted_on(day) - self.limit_on(says, day)
            if excess > 0:
                wrong.append((day, excess))
        return wrong

    def pass_days(self, days):
        self.today += days

    def post(self, limit):
        self.postings.append((self.today, limit))
