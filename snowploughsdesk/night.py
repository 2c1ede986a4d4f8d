"""The calls on one night, and what they answer."""

BEGINS = 0
STREET = 1
APART = 2
TOGETHER = 3
CHECK = 4
BEST = 5
RATIO = 6

MOST_PLOUGHS = 3
MOST_STREETS = 4
MOST_METRES = 1000
MOST_HUNDREDTHS = 100
MOST_MINUTES = 5000
HUNDREDTHS_OF_A_METRE = 100


def is_metres(number):
    return 1 <= number <= MOST_METRES


def in_lowest_terms(above, below):
    divisor = above
    rest = below
    while rest > 0:
        next_rest = divisor % rest
        divisor = rest
        rest = next_rest
    return (above // divisor, below // divisor)


def is_less(fraction, other):
    # Multiplied crosswise, a fraction with 0 below is more than every other and
    # as much as its like: just as streets are put that don't grow.
    return fraction[0] * other[1] < other[0] * fraction[1]


def latest(times):
    found = times[0]
    for one in times:
        if is_less(found, one):
            found = one
    return found


def when_done(streets, speed):
    above = 0
    below = 1
    full_speed = HUNDREDTHS_OF_A_METRE * speed
    # A street begun at x is clear at x + (metres + x * hundredths / 100) / speed.
    # Here x is above by below, and all is in hundredths, to stay whole.
    for metres, hundredths in streets:
        full_metres = HUNDREDTHS_OF_A_METRE * metres
        above = above * (full_speed + hundredths) + below * full_metres
        below = below * full_speed
    return in_lowest_terms(above, below)


def numbers_of_plans(street_count, plough_count):
    # How many streets there are is also the change to the next plough: no street
    # has a higher number, so that this row is in order.
    return list(range(street_count)) + [street_count] * (plough_count - 1)


def all_plans(street_count, plough_count):
    numbers = numbers_of_plans(street_count, plough_count)
    plans = [[]]
    # Each goes on by the lower numbers first. That keeps the plans in order, so
    # that of several as good the first one met is the earliest.
    for place in range(len(numbers)):
        longer = []
        for plan in plans:
            for number in range(street_count + 1):
                if plan.count(number) < numbers.count(number):
                    longer.append(plan + [number])
        plans = longer
    return plans


def shares_of(plan, street_count):
    shares = [[]]
    for number in plan:
        if number == street_count:
            shares.append([])
        else:
            shares[-1].append(number)
    return shares


def plan_of(shares, street_count):
    plan = list(shares[0])
    for share in shares[1:]:
        plan = plan + [street_count] + share
    return plan


def streets_of(plough, owners):
    return [street for street, owner in enumerate(owners) if owner == plough]


def is_one_ploughs(shares, street, other):
    return any([street in share and other in share for share in shares])


def first_pair(pairs, shares, wanted):
    for street, other in pairs:
        if is_one_ploughs(shares, street, other) == wanted:
            return [street, other]
    return []


class Night:
    def __init__(self):
        self.ploughs = [1]
        self.streets = []
        self.apart = []
        self.together = []

    def begin(self, ploughs):
        if not 1 <= len(ploughs) <= MOST_PLOUGHS:
            return [-1]
        if not all([is_metres(metres) for metres in ploughs]):
            return [-1]
        self.ploughs = list(ploughs)
        self.streets = []
        self.apart = []
        self.together = []
        return [0]

    def add_street(self, metres, hundredths):
        if not is_metres(metres) or hundredths > MOST_HUNDREDTHS:
            return [-1]
        if len(self.streets) == MOST_STREETS:
            return [-5]
        number = len(self.streets)
        self.streets.append((metres, hundredths))
        return [number]

    def tell_apart(self, street, other):
        return self.tell(self.apart, street, other)

    def tell_together(self, street, other):
        return self.tell(self.together, street, other)

    def tell(self, pairs, street, other):
        if street >= len(self.streets) or other >= len(self.streets):
            return [-2]
        if street == other or (street, other) in pairs or (other, street) in pairs:
            return [-4]
        # A row of pairs, not a sorted or turned one: a refusal of check
        # names the first one told, and as it was told.
        pairs.append((street, other))
        return [0]

    def why_not(self, shares):
        found = first_pair(self.apart, shares, True)
        if found:
            return [-6] + found
        found = first_pair(self.together, shares, False)
        if found:
            return [-7] + found
        return []

    def times(self, shares, ploughs):
        found = []
        for share, speed in zip(shares, ploughs):
            found.append(when_done([self.streets[street] for street in share], speed))
        return found

    def check(self, plan):
        street_count = len(self.streets)
        if any([number > street_count for number in plan]):
            return [-1]
        if sorted(plan) != numbers_of_plans(street_count, len(self.ploughs)):
            return [-4]
        shares = shares_of(plan, street_count)
        refusal = self.why_not(shares)
        if refusal:
            return refusal
        times = self.times(shares, self.ploughs)
        answered = [0] + list(latest(times))
        for done in times:
            answered.extend(done)
        return answered

    def possible_shares(self):
        street_count = len(self.streets)
        plans = all_plans(street_count, len(self.ploughs))
        found = [shares_of(plan, street_count) for plan in plans]
        return [shares for shares in found if not self.why_not(shares)]

    def best(self):
        soonest = None
        as_good = []
        for shares in self.possible_shares():
            clear = latest(self.times(shares, self.ploughs))
            if soonest is None or is_less(clear, soonest):
                soonest = clear
                as_good = []
            if clear == soonest:
                as_good.append(shares)
        if soonest is None:
            return [-6]
        earliest = plan_of(as_good[0], len(self.streets))
        return [0, soonest[0], soonest[1], len(as_good)] + earliest

    def in_order_of_ratio(self, streets):
        share = []
        # A street as it's kept is the fraction that is asked for, its metres by
        # its hundredths. Those of as much stay ahead: their numbers are lower.
        for street in streets:
            own = self.streets[street]
            ahead = [other for other in share if not is_less(own, self.streets[other])]
            share.insert(len(ahead), street)
        return share

    def ratio(self, owners):
        if len(owners) != len(self.streets):
            return [-1]
        if any([owner >= len(self.ploughs) for owner in owners]):
            return [-1]
        shares = []
        for plough in range(len(self.ploughs)):
            shares.append(self.in_order_of_ratio(streets_of(plough, owners)))
        can_be = 0 if self.why_not(shares) else 1
        clear = latest(self.times(shares, self.ploughs))
        return [can_be, clear[0], clear[1]] + plan_of(shares, len(self.streets))

    def is_enough(self, possible, ploughs, minute):
        for shares in possible:
            if not is_less((minute, 1), latest(self.times(shares, ploughs))):
                return True
        return False

    def needs(self, plough, minute):
        if plough >= len(self.ploughs):
            return [-2]
        if minute > MOST_MINUTES:
            return [-1]
        possible = self.possible_shares()
        ploughs = list(self.ploughs)
        # A faster plough is later by no plan, so that halving finds the least.
        too_few = 0
        enough = MOST_METRES + 1
        while enough - too_few > 1:
            ploughs[plough] = (too_few + enough) // 2
            if self.is_enough(possible, ploughs, minute):
                enough = ploughs[plough]
            else:
                too_few = ploughs[plough]
        if enough > MOST_METRES:
            return [-6]
        return [enough]


def read_calls(calls):
    found = []
    at = 0
    while at < len(calls):
        number = calls[at]
        at += 1
        if number in (BEGINS, CHECK, RATIO):
            length = calls[at]
            at += 1
        elif number == BEST:
            length = 0
        else:
            length = 2
        found.append((number, calls[at:at + length]))
        at += length
    return found


def answer(night, number, numbers):
    if number == BEGINS:
        return night.begin(numbers)
    if number == STREET:
        return night.add_street(numbers[0], numbers[1])
    if number == APART:
        return night.tell_apart(numbers[0], numbers[1])
    if number == TOGETHER:
        return night.tell_together(numbers[0], numbers[1])
    if number == CHECK:
        return night.check(numbers)
    if number == BEST:
        return night.best()
    if number == RATIO:
        return night.ratio(numbers)
    return night.needs(numbers[0], numbers[1])


def answers(calls):
    night = Night()
    told = []
    for number, numbers in read_calls(calls):
        answered = answer(night, number, numbers)
        told.append(len(answered))
        told.extend(answered)
    return told
