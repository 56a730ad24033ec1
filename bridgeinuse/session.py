"""A line of calls, read from front to back, and the bridge that it's about."""

from bridgeinuse.bridge import Bridge

FIRST_TURN = 1
FIRST_SPANS = (1, 1, 0, 0)


class Session:
    def __init__(self, calls):
        self.calls = calls
        self.position = 0
        self.begin_bridge(FIRST_TURN, list(FIRST_SPANS))

    def begin_bridge(self, turn, spans):
        self.bridge = Bridge(turn, spans)

    def is_done(self):
        return self.position >= len(self.calls)

    def take(self):
        number = self.calls[self.position]
        self.position += 1
        return number

    def take_row(self):
        size = self.take()
        start = self.position
        self.position += size
        return self.calls[start:self.position]
