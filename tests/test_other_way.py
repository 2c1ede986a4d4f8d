"""The program held against another way of finding its answers.

Here every order of every plan's numbers is gone through, with Python's own
fractions, and the least speed is found by trying one after another.
"""

import itertools
import random
import unittest
from fractions import Fraction

from snowploughsdesk.night import answers

MINUTES = (0, 1, 2, 3, 4, 5, 7, 10, 20, 50, 200, 5000)


def clear_after(minutes, streets, speed):
    for metres, hundredths in streets:
        minutes += (metres + minutes * Fraction(hundredths, 100)) / speed
    return minutes


def two(fraction):
    return [fraction.numerator, fraction.denominator]


class OtherNight:
    """A night told all at once: speeds, streets and pairs as lists."""

    def __init__(self, speeds, streets, apart=(), together=()):
        self.speeds = speeds
        self.streets = streets
        self.apart = apart
        self.together = together

    def row(self):
        return [*range(len(self.streets))] + [len(self.streets)] * (len(self.speeds) - 1)

    def plans(self):
        return sorted(set(itertools.permutations(self.row())))

    def parts(self, plan):
        ends = [at for at, number in enumerate(plan) if number == len(self.streets)]
        begins = [0] + [end + 1 for end in ends]
        return [plan[begin:end] for begin, end in zip(begins, ends + [len(plan)])]

    def done(self, plan, speeds):
        return [
            clear_after(Fraction(0), [self.streets[number] for number in part], speed)
            for part, speed in zip(self.parts(plan), speeds)]

    def refusal(self, plan):
        whose = {}
        for plough, part in enumerate(self.parts(plan)):
            for number in part:
                whose[number] = plough
        for one, other in self.apart:
            if whose[one] == whose[other]:
                return [-6, one, other]
        for one, other in self.together:
            if whose[one] != whose[other]:
                return [-7, one, other]
        return None

    def possible(self):
        return [plan for plan in self.plans() if self.refusal(plan) is None]

    def check(self, plan):
        if [number for number in plan if number > len(self.streets)]:
            return [-1]
        if tuple(plan) not in self.plans():
            return [-4]
        if self.refusal(plan) is not None:
            return self.refusal(plan)
        done = self.done(plan, self.speeds)
        return [0] + two(max(done)) + [number for one in done for number in two(one)]

    def best(self):
        found = [(max(self.done(plan, self.speeds)), plan) for plan in self.possible()]
        if not found:
            return [-6]
        soonest, earliest = min(found)
        return [0, *two(soonest), len([1 for clear, plan in found if clear == soonest]), *earliest]

    def ratio(self, owners):
        if len(owners) != len(self.streets) or [one for one in owners if one >= len(self.speeds)]:
            return [-1]

        def key(number):
            metres, hundredths = self.streets[number]
            if hundredths == 0:
                return (1, 0, number)
            return (0, Fraction(metres, hundredths), number)

        plan = []
        for plough in range(len(self.speeds)):
            if plough > 0:
                plan.append(len(self.streets))
            plan += sorted([number for number, one in enumerate(owners) if one == plough], key=key)
        can_be = 1 if self.refusal(plan) is None else 0
        return [can_be, *two(max(self.done(plan, self.speeds))), *plan]

    def needs(self, plough, minute):
        if plough >= len(self.speeds):
            return [-2]
        if minute > 5000:
            return [-1]
        own = set()
        for plan in self.possible():
            done = self.done(plan, self.speeds)
            done[plough] = 0
            if max(done) <= minute:
                own.add(tuple(self.streets[number] for number in self.parts(plan)[plough]))
        for speed in range(1, 1001):
            if any(clear_after(Fraction(0), row, speed) <= minute for row in own):
                return [speed]
        return [-6]

    def calls(self):
        told = [0, len(self.speeds), *self.speeds]
        for metres, hundredths in self.streets:
            told += [1, metres, hundredths]
        for one, other in self.apart:
            told += [2, one, other]
        for one, other in self.together:
            told += [3, one, other]
        return told

    def ask(self, call):
        """What the program answers to this one call on this night."""
        told = answers(self.calls() + call)
        at = 0
        while at + 1 + told[at] < len(told):
            at += 1 + told[at]
        return told[at + 1:]


def some_pairs(draw, count, most):
    pairs = []
    for one, other in itertools.combinations(range(count), 2):
        pairs.append(draw.choice([(one, other), (other, one)]))
    draw.shuffle(pairs)
    return pairs[:draw.randint(0, most)]


def some_night(draw, most_streets, metres, hundredths, speeds):
    count = draw.randint(0, most_streets)
    return OtherNight(
        [draw.choice(speeds) for number in range(draw.randint(1, 3))],
        [(draw.choice(metres), draw.choice(hundredths)) for number in range(count)],
        some_pairs(draw, count, draw.choice([0, 0, 1, 2, 3])),
        some_pairs(draw, count, draw.choice([0, 0, 0, 1, 2])))


def nights(seed, count, most_streets):
    """Half of them of few different numbers, so that much is as good; half of any."""
    draw = random.Random(seed)
    for number in range(count):
        if number % 2 == 0:
            yield draw, some_night(draw, most_streets, [1, 2, 3, 4, 6], [0, 0, 50, 100], [1, 2, 3])
        else:
            every = range(1, 1001)
            yield draw, some_night(draw, most_streets, every, range(101), every)


def some_row(draw, night):
    row = night.row()
    draw.shuffle(row)
    for turn in range(draw.choice([0, 0, 0, 0, 1, 2])):
        change = draw.randrange(3)
        if change == 0 and len(row) < 8:
            row.insert(draw.randint(0, len(row)), draw.randrange(6))
        elif change == 1 and row:
            row.pop(draw.randrange(len(row)))
        elif row:
            row[draw.randrange(len(row))] = draw.randrange(6)
    return row


class OtherWay(unittest.TestCase):
    def test_best(self):
        for draw, night in nights(1, 250, 4):
            with self.subTest(calls=night.calls()):
                self.assertEqual(night.ask([5]), night.best())

    def test_needs(self):
        for draw, night in nights(2, 150, 4):
            plough = draw.randrange(len(night.speeds))
            for minute in draw.sample(MINUTES, 2):
                with self.subTest(calls=night.calls(), plough=plough, minute=minute):
                    self.assertEqual(night.ask([7, plough, minute]), night.needs(plough, minute))

    def test_check(self):
        for draw, night in nights(3, 100, 4):
            for turn in range(10):
                row = some_row(draw, night)
                with self.subTest(calls=night.calls(), row=row):
                    self.assertEqual(night.ask([4, len(row), *row]), night.check(row))

    def test_check_of_every_plan(self):
        for draw, night in nights(4, 20, 3):
            for plan in night.plans():
                with self.subTest(calls=night.calls(), plan=plan):
                    self.assertEqual(night.ask([4, len(plan), *plan]), night.check(plan))

    def test_ratio(self):
        for draw, night in nights(5, 200, 4):
            for turn in range(5):
                length = draw.choice([len(night.streets)] * 5 + [draw.randrange(7)])
                most = draw.choice([len(night.speeds)] * 5 + [5])
                owners = [draw.randrange(most) for number in range(length)]
                with self.subTest(calls=night.calls(), owners=owners):
                    self.assertEqual(night.ask([6, length, *owners]), night.ratio(owners))

    def test_all_that_is_clear_by_the_best_is_just_enough_for_what_it_needs(self):
        for draw, night in nights(6, 100, 4):
            told = night.ask([5])
            if told != [-6] and told[1] <= 5000 * told[2]:
                minute = -(-told[1] // told[2])
                for plough, speed in enumerate(night.speeds):
                    with self.subTest(calls=night.calls(), plough=plough):
                        least = night.ask([7, plough, minute])[0]
                        self.assertIn(least, range(1, speed + 1))


if __name__ == "__main__":
    unittest.main()
