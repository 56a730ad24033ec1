"""The lane over the spans: who waits, who crosses, and what happens at a tick."""

LEFT = 0
RIGHT = 1

WAITS = 0
CROSSES = 1
HAS_LEFT = 2
GAVE_UP = 3
SENT_AWAY = 4

OFF_THE_BRIDGE = -1


class Vehicle:
    def __init__(self, number, side, weight):
        self.number = number
        self.side = side
        self.weight = weight
        self.status = WAITS
        self.cell = 0
        self.ended = 0

    def twin(self):
        other = Vehicle(self.number, self.side, self.weight)
        other.status = self.status
        other.cell = self.cell
        other.ended = self.ended
        return other


def weight_together(vehicles):
    return sum([v.weight for v in vehicles])


# The twins of some vehicles, out of all twins.
def twins_of(some, twins):
    return [twins[v.number] for v in some]


def spans_cell_by_cell(sizes):
    spans = []
    for span, size in enumerate(sizes):
        spans.extend([span] * size)
    return spans


class Lane:
    def __init__(self, turn, sizes, limits):
        self.turn = turn
        self.sizes = sizes
        self.cell_spans = spans_cell_by_cell(sizes)
        self.limits = limits
        self.time = 0
        self.open_side = LEFT
        self.entered = 0
        self.vehicles = []
        self.waiting = [[], []]
        # Kept with those farthest on first. All of them come from one side, since
        # the other one is opened only when nobody is on the bridge.
        self.crossing = []

    def least_limit(self):
        return min(self.limits)

    def how_many_wait(self):
        return len(self.waiting[LEFT]) + len(self.waiting[RIGHT])

    def join_queue(self, side, weight):
        vehicle = Vehicle(len(self.vehicles), side, weight)
        self.vehicles.append(vehicle)
        self.waiting[side].append(vehicle)
        return vehicle.number

    def leave_queue(self, vehicle, status):
        self.waiting[vehicle.side].remove(vehicle)
        vehicle.status = status
        vehicle.ended = self.time

    def change_limits(self, limits):
        self.limits = limits
        least = self.least_limit()
        heavier = [v for v in self.vehicles if v.status == WAITS and v.weight > least]
        for vehicle in heavier:
            self.leave_queue(vehicle, SENT_AWAY)
        return [v.number for v in heavier]

    def tick(self, may_enter):
        self.time += 1
        left = self.move_on()
        if self.is_turn_over() and len(self.crossing) == 0:
            self.open_side = 1 - self.open_side
            self.entered = 0
        if may_enter and not self.is_turn_over():
            self.let_first_enter()
        return left

    def is_turn_over(self):
        if len(self.waiting[1 - self.open_side]) == 0:
            return False
        return len(self.waiting[self.open_side]) == 0 or self.entered >= self.turn

    def move_on(self):
        left = []
        # Whoever is behind looks at this list alone, so it sees those ahead where they are now.
        ahead = []
        for vehicle in self.crossing:
            cell = self.next_cell(vehicle)
            if cell == OFF_THE_BRIDGE:
                vehicle.status = HAS_LEFT
                vehicle.ended = self.time
                left.append(vehicle.number)
            else:
                if self.has_room(cell, vehicle.weight, self.cell_spans[vehicle.cell], ahead):
                    vehicle.cell = cell
                ahead.append(vehicle)
        self.crossing = ahead
        return left

    def let_first_enter(self):
        queue = self.waiting[self.open_side]
        if len(queue) == 0:
            return
        vehicle = queue[0]
        cell = self.first_cell(vehicle.side)
        if self.has_room(cell, vehicle.weight, OFF_THE_BRIDGE, self.crossing):
            queue.pop(0)
            vehicle.status = CROSSES
            vehicle.cell = cell
            self.crossing.append(vehicle)
            self.entered += 1

    def first_cell(self, side):
        return 0 if side == LEFT else len(self.cell_spans) - 1

    def next_cell(self, vehicle):
        cell = vehicle.cell + 1 if vehicle.side == LEFT else vehicle.cell - 1
        return cell if 0 <= cell < len(self.cell_spans) else OFF_THE_BRIDGE

    def has_room(self, cell, weight, span_before, ahead):
        if any([v.cell == cell for v in ahead]):
            return False
        span = self.cell_spans[cell]
        if span == span_before:
            return True
        there = [v for v in ahead if self.cell_spans[v.cell] == span]
        return weight_together(there) + weight <= self.limits[span]

    def who_by_span(self):
        there = {}
        for vehicle in self.crossing:
            there.setdefault(self.cell_spans[vehicle.cell], []).append(vehicle)
        return there

    def span_loads(self):
        there = self.who_by_span()
        return [weight_together(there.get(span, [])) for span in range(len(self.sizes))]

    def twin(self):
        other = Lane(self.turn, self.sizes, self.limits)
        other.time = self.time
        other.open_side = self.open_side
        other.entered = self.entered
        other.vehicles = [v.twin() for v in self.vehicles]
        other.waiting = [twins_of(queue, other.vehicles) for queue in self.waiting]
        other.crossing = twins_of(self.crossing, other.vehicles)
        return other

    # Only for a vehicle that will leave, else it wouldn't end. It looks ahead on a twin,
    # so that here the ticks don't happen.
    def ticks_till_left(self, number, may_enter):
        other = self.twin()
        vehicle = other.vehicles[number]
        while vehicle.status != HAS_LEFT:
            other.tick(may_enter)
        return other.time - self.time
