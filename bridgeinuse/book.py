"""The book: of each day and span the most that it bore, when it did first, and who was on it then."""

from bridgeinuse.lane import weight_together


class Book:
    def __init__(self):
        # From (day, span) to (how much, the time, the vehicles' numbers).
        self.lines = {}

    def write_tick(self, day, time, vehicles_by_span):
        for span, vehicles in vehicles_by_span.items():
            load = weight_together(vehicles)
            # Only a greater load is written over: of equal ones the first is meant.
            if (day, span) not in self.lines or load > self.lines[(day, span)][0]:
                self.lines[(day, span)] = (load, time, tuple([v.number for v in vehicles]))

    # Of each span with a line that day, rising: the span, how much, the time.
    def lines_of_day(self, day):
        spans = sorted([key[1] for key in self.lines if key[0] == day])
        return [(span, self.lines[(day, span)][0], self.lines[(day, span)][1]) for span in spans]
