"""The calls on one night, and what they answer."""

BEGINS = 0
STREET = 1
APART = 2
TOGETHER = 3
CHECK = 4
BEST = 5
RATIO = 6

MOST_PLOUGHS = 3
MOST_STREETS = 4
MOST_METRES = 1000
MOST_HUNDREDTHS = 100


class NotBuilt(Exception):
    pass


def is_metres(number):
    return 1 <= number <= MOST_METRES


class Night:
    def __init__(self):
        self.ploughs = [1]
        self.streets = []
        self.apart = []
        self.together = []

    def begin(self, ploughs):
        if not 1 <= len(ploughs) <= MOST_PLOUGHS:
            return [-1]
        if not all([is_metres(metres) for metres in ploughs]):
            return [-1]
        self.ploughs = list(ploughs)
        self.streets = []
        self.apart = []
        self.together = []
        return [0]

    def add_street(self, metres, hundredths):
        if not is_metres(metres) or hundredths > MOST_HUNDREDTHS:
            return [-1]
        if len(self.streets) == MOST_STREETS:
            return [-5]
        number = len(self.streets)
        self.streets.append((metres, hundredths))
        return [number]

    def tell_apart(self, street, other):
        return self.tell(self.apart, street, other)

    def tell_together(self, street, other):
        return self.tell(self.together, street, other)

    def tell(self, pairs, street, other):
        if street >= len(self.streets) or other >= len(self.streets):
            return [-2]
        if street == other or (street, other) in pairs or (other, street) in pairs:
            return [-4]
        # A row of pairs, not a sorted or turned one: a refusal of check
        # names the first one told, and as it was told.
        pairs.append((street, other))
        return [0]


def read_calls(calls):
    found = []
    at = 0
    while at < len(calls):
        number = calls[at]
        at += 1
        if number in (BEGINS, CHECK, RATIO):
            length = calls[at]
            at += 1
        elif number == BEST:
            length = 0
        else:
            length = 2
        found.append((number, calls[at:at + length]))
        at += length
    return found


def answer(night, number, numbers):
    if number == BEGINS:
        return night.begin(numbers)
    if number == STREET:
        return night.add_street(numbers[0], numbers[1])
    if number == APART:
        return night.tell_apart(numbers[0], numbers[1])
    if number == TOGETHER:
        return night.tell_together(numbers[0], numbers[1])
    # An error rather than a number: every number would be read as an answer.
    raise NotBuilt(f"call {number} is not answered yet")


def answers(calls):
    night = Night()
    told = []
    for number, numbers in read_calls(calls):
        answered = answer(night, number, numbers)
        told.append(len(answered))
        told.extend(answered)
    return told
