"""The file of the parts: its entries, what is known by the first of them, and what was posted."""

FOUND = 0
MENDED = 1
STRUCK = 2
PUT_RIGHT = 3

NO_SOURCE = -1


class Entry:
    def __init__(self, kind, part, day, crack, about):
        self.kind = kind
        self.part = part
        self.day = day
        self.crack = crack
        # The earlier entry that is struck or put right; the other kinds don't use it.
        self.about = about


class Records:
    def __init__(self, parts):
        # Of each part: what it bears when it's sound, what a unit of its crack costs, how it grows.
        self.parts = parts
        self.today = 0
        self.entries = []
        # Of each posting: the day, what was posted.
        self.postings = []

    def enter_crack(self, kind, part, day, crack):
        return self.enter(Entry(kind, part, day, crack, NO_SOURCE))

    def enter_change(self, kind, about, crack):
        earlier = self.entries[about]
        return self.enter(Entry(kind, earlier.part, earlier.day, crack, about))

    def enter(self, entry):
        self.entries.append(entry)
        return len(self.entries) - 1

    # A dict from each entry that counts by the first n to the crack that it then says.
    # Its keys rise, for an entry that's put right keeps its place.
    def counting(self, n):
        says = {}
        for number, entry in enumerate(self.entries[:n]):
            if entry.kind == STRUCK:
                says.pop(entry.about)
            elif entry.kind == PUT_RIGHT:
                says[entry.about] = entry.crack
            else:
                says[number] = entry.crack
        return says

    def counting_now(self):
        return self.counting(len(self.entries))

    def source_on(self, says, part, day):
        source = NO_SOURCE
        for number in says:
            entry = self.entries[number]
            if entry.part == part and entry.day <= day:
                # Of one day the one made last is meant, and that comes later here.
                if source == NO_SOURCE or entry.day >= self.entries[source].day:
                    source = number
        return source

    def crack_on(self, says, part, day):
        source = self.source_on(says, part, day)
        if source == NO_SOURCE:
            return self.grown(part, day)
        return says[source] + self.grown(part, day - self.entries[source].day)

    def grown(self, part, days):
        growth = self.parts[part][2]
        return (growth * days + 99) // 100

    def bears(self, says, part, day):
        sound = self.parts[part][0]
        cost = self.parts[part][1]
        return max(0, sound - cost * self.crack_on(says, part, day))

    def all_bear(self, says, day):
        return [self.bears(says, part, day) for part in range(len(self.parts))]

    def pass_days(self, days):
        self.today += days

    def post(self, limit):
        self.postings.append((self.today, limit))
