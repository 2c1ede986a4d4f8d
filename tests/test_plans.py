"""check, best, ratio and needs, by answers reckoned by hand."""

import time
import unittest

from snowploughsdesk.night import answers

BIGGEST = 4294967295


def begins(*ploughs):
    return [0, len(ploughs), *ploughs]


def street(metres=1, hundredths=0):
    return [1, metres, hundredths]


def apart(one, other):
    return [2, one, other]


def together(one, other):
    return [3, one, other]


def check(*plan):
    return [4, len(plan), *plan]


def best():
    return [5]


def ratio(*ploughs):
    return [6, len(ploughs), *ploughs]


def needs(plough, minute):
    return [7, plough, minute]


def ask(*calls):
    """What each call answers: its numbers, without their count."""
    told = answers([number for call in calls for number in call])
    found = []
    while told:
        found.append(told[1:1 + told[0]])
        told = told[1 + told[0]:]
    return found


def last(*calls):
    return ask(*calls)[-1]


def streets(count):
    return [street() for number in range(count)]


class Check(unittest.TestCase):
    def test_no_streets_and_the_plough_of_the_beginning(self):
        self.assertEqual(ask(check()), [[0, 0, 1, 0, 1]])

    def test_the_plough_of_the_beginning_clears_a_metre_a_minute(self):
        self.assertEqual(last(street(7), check(0)), [0, 7, 1, 7, 1])

    def test_no_streets_and_more_ploughs(self):
        self.assertEqual(last(begins(5), check()), [0, 0, 1, 0, 1])
        self.assertEqual(last(begins(5, 6), check(0)), [0, 0, 1, 0, 1, 0, 1])
        self.assertEqual(last(begins(5, 6, 7), check(0, 0)), [0, 0, 1, 0, 1, 0, 1, 0, 1])

    def test_no_streets_and_a_wrong_plan(self):
        self.assertEqual(last(check(0)), [-4])
        self.assertEqual(last(check(1)), [-1])
        self.assertEqual(last(begins(5, 6), check()), [-4])
        self.assertEqual(last(begins(5, 6), check(0, 0)), [-4])
        self.assertEqual(last(begins(5, 6), check(0, 1)), [-1])
        self.assertEqual(last(begins(5, 6, 7), check(0)), [-4])
        self.assertEqual(last(begins(5, 6, 7), check(0, 0, 0)), [-4])
        self.assertEqual(last(begins(5, 6, 7), check(*[0] * 8)), [-4])

    def test_streets_that_do_not_grow(self):
        night = [begins(5), street(10), street(35)]
        self.assertEqual(last(*night, check(0, 1)), [0, 9, 1, 9, 1])
        self.assertEqual(last(*night, check(1, 0)), [0, 9, 1, 9, 1])

    def test_a_street_that_grows_till_it_is_begun(self):
        night = [street(2, 0), street(3, 50)]
        self.assertEqual(last(*night, check(0, 1)), [0, 6, 1, 6, 1])
        self.assertEqual(last(*night, check(1, 0)), [0, 5, 1, 5, 1])

    def test_what_falls_while_it_is_cleared_is_not_looked_at(self):
        self.assertEqual(last(street(9, 100), check(0)), [0, 9, 1, 9, 1])

    def test_the_most_and_the_least_that_streets_grow(self):
        self.assertEqual(last(street(100), street(1, 100), check(0, 1)), [0, 201, 1, 201, 1])
        self.assertEqual(last(street(100), street(1, 1), check(0, 1)), [0, 102, 1, 102, 1])

    def test_four_streets_of_which_each_grows_by_the_time_of_all_ahead(self):
        night = [street(1000, 100) for number in range(4)]
        self.assertEqual(last(*night, check(0, 1, 2, 3)), [0, 15000, 1, 15000, 1])

    def test_a_fraction_in_lowest_terms(self):
        self.assertEqual(last(begins(3), street(10), check(0)), [0, 10, 3, 10, 3])
        self.assertEqual(last(begins(4), street(10), check(0)), [0, 5, 2, 5, 2])
        self.assertEqual(last(begins(1000), street(1), check(0)), [0, 1, 1000, 1, 1000])
        self.assertEqual(last(begins(1000), street(1000), check(0)), [0, 1, 1, 1, 1])

    def test_a_street_that_is_begun_at_a_fraction(self):
        # 10/3; then 7 + 10/3 * 1/20 = 43/6 metres, for 43/18 minutes more.
        night = [begins(3), street(10, 9), street(7, 5)]
        self.assertEqual(last(*night, check(0, 1)), [0, 103, 18, 103, 18])

    def test_two_ploughs_in_their_order(self):
        night = [begins(2, 5), street(10), street(15)]
        self.assertEqual(last(*night, check(0, 2, 1)), [0, 5, 1, 5, 1, 3, 1])
        self.assertEqual(last(*night, check(1, 2, 0)), [0, 15, 2, 15, 2, 2, 1])
        night = [begins(5, 2), street(10), street(15)]
        self.assertEqual(last(*night, check(0, 2, 1)), [0, 15, 2, 2, 1, 15, 2])

    def test_three_ploughs_of_which_each_may_be_the_last(self):
        night = [begins(1, 2, 3), street(8), street(8), street(8)]
        self.assertEqual(last(*night, check(0, 3, 1, 3, 2)), [0, 8, 1, 8, 1, 4, 1, 8, 3])
        night = [begins(2, 1, 3), street(8), street(8), street(8)]
        self.assertEqual(last(*night, check(2, 3, 0, 3, 1)), [0, 8, 1, 4, 1, 8, 1, 8, 3])
        night = [begins(3, 2, 1), street(8), street(8), street(8)]
        self.assertEqual(last(*night, check(1, 3, 2, 3, 0)), [0, 8, 1, 8, 3, 4, 1, 8, 1])

    def test_each_plough_begins_at_minute_0(self):
        night = [begins(1, 1), street(10, 100), street(10, 100)]
        self.assertEqual(last(*night, check(0, 2, 1)), [0, 10, 1, 10, 1, 10, 1])

    def test_a_plough_that_has_no_streets(self):
        night = [begins(1, 2, 3), street(6), street(12)]
        self.assertEqual(last(*night, check(2, 0, 2, 1)), [0, 4, 1, 0, 1, 3, 1, 4, 1])
        self.assertEqual(last(*night, check(0, 2, 2, 1)), [0, 6, 1, 6, 1, 0, 1, 4, 1])
        self.assertEqual(last(*night, check(0, 2, 1, 2)), [0, 6, 1, 6, 1, 6, 1, 0, 1])
        self.assertEqual(last(*night, check(2, 2, 1, 0)), [0, 6, 1, 0, 1, 0, 1, 6, 1])
        self.assertEqual(last(*night, check(1, 0, 2, 2)), [0, 18, 1, 18, 1, 0, 1, 0, 1])

    def test_two_ploughs_of_which_one_has_no_streets(self):
        night = [begins(1, 2), street(6)]
        self.assertEqual(last(*night, check(0, 1)), [0, 6, 1, 6, 1, 0, 1])
        self.assertEqual(last(*night, check(1, 0)), [0, 3, 1, 0, 1, 3, 1])

    def test_a_number_above_how_many_streets_there_are(self):
        night = [begins(5, 5), *streets(3)]
        for number in (4, 5, BIGGEST):
            self.assertEqual(last(*night, check(number, 0, 1, 2)), [-1])
            self.assertEqual(last(*night, check(0, number, 1, 2)), [-1])
            self.assertEqual(last(*night, check(0, 1, 2, number)), [-1])
        self.assertEqual(last(*night, check(0, 3, 1, 2)), [0, 2, 5, 1, 5, 2, 5])

    def test_it_is_told_ahead_of_a_row_that_is_no_plan_otherwise_either(self):
        night = [begins(5, 5), *streets(3), apart(0, 1)]
        for plan in ([4], [0, 0, 1, 4], [4, 4], [0, 1, 2, 4], [3, 3, 4], [0, 1, 2, 3, 4],
                     [4, 4, 4, 4, 4, 4, 4, 4]):
            self.assertEqual(last(*night, check(*plan)), [-1])

    def test_not_each_street_once(self):
        night = [begins(5, 5), *streets(3)]
        for plan in ([], [3], [0, 3, 1], [0, 1, 3], [1, 2, 3], [0, 2, 3], [0, 0, 3, 1],
                     [0, 3, 1, 2, 0], [0, 1, 2, 3, 2], [0, 0, 3, 1, 2], [1, 1, 3, 2, 2],
                     [0, 1, 2, 3, 0, 1, 2, 0]):
            self.assertEqual(last(*night, check(*plan)), [-4])

    def test_too_few_or_too_many_changes(self):
        for ploughs in ([5], [5, 5], [5, 5, 5]):
            night = [begins(*ploughs), *streets(3)]
            for changes in range(6):
                answer = 0 if changes == len(ploughs) - 1 else -4
                self.assertEqual(last(*night, check(0, 1, 2, *[3] * changes))[0], answer)
                self.assertEqual(last(*night, check(*[3] * changes, 2, 1, 0))[0], answer)

    def test_a_street_in_the_place_of_a_change_and_the_other_way_round(self):
        night = [begins(5, 5), *streets(2)]
        self.assertEqual(last(*night, check(0, 1, 1)), [-4])
        self.assertEqual(last(*night, check(0, 2, 2)), [-4])

    def test_two_that_lie_apart_and_are_one_ploughs(self):
        night = [begins(5, 5), *streets(3), apart(0, 2)]
        for plan in ([0, 2, 3, 1], [2, 0, 3, 1], [1, 3, 0, 2], [2, 1, 0, 3], [3, 0, 1, 2]):
            self.assertEqual(last(*night, check(*plan)), [-6, 0, 2])
        for plan in ([0, 3, 2, 1], [2, 1, 3, 0], [0, 1, 3, 2]):
            self.assertEqual(last(*night, check(*plan))[0], 0)

    def test_they_are_told_as_they_were_told(self):
        for one, other in ((0, 2), (2, 0)):
            night = [begins(5, 5), *streets(3), apart(one, other)]
            for plan in ([0, 2, 3, 1], [1, 3, 2, 0]):
                self.assertEqual(last(*night, check(*plan)), [-6, one, other])

    def test_of_several_that_lie_apart_the_first_told(self):
        twos = [(3, 2), (0, 1), (1, 3), (2, 0)]
        for turn in range(4):
            told = twos[turn:] + twos[:turn]
            night = [*streets(4), *[apart(one, other) for one, other in told]]
            self.assertEqual(last(*night, check(0, 1, 2, 3)), [-6, *told[0]])

    def test_of_several_that_lie_apart_the_first_told_that_is_one_ploughs(self):
        night = [begins(5, 5), *streets(4), apart(0, 1), apart(3, 1), apart(2, 0), apart(0, 3)]
        self.assertEqual(last(*night, check(0, 2, 4, 1, 3)), [-6, 3, 1])
        self.assertEqual(last(*night, check(0, 2, 3, 4, 1)), [-6, 2, 0])
        self.assertEqual(last(*night, check(1, 2, 4, 3, 0)), [-6, 0, 3])
        self.assertEqual(last(*night, check(1, 2, 4, 3)), [-4])

    def test_two_that_lie_together_and_are_not_one_ploughs(self):
        night = [begins(5, 5), *streets(3), together(0, 2)]
        for plan in ([0, 3, 2, 1], [2, 1, 3, 0], [0, 1, 3, 2]):
            self.assertEqual(last(*night, check(*plan)), [-7, 0, 2])
        for plan in ([0, 2, 3, 1], [2, 0, 3, 1], [1, 3, 0, 2], [2, 1, 0, 3], [3, 0, 1, 2]):
            self.assertEqual(last(*night, check(*plan))[0], 0)

    def test_these_too_are_told_as_they_were_told(self):
        for one, other in ((0, 2), (2, 0)):
            night = [begins(5, 5), *streets(3), together(one, other)]
            for plan in ([0, 3, 2, 1], [1, 2, 3, 0]):
                self.assertEqual(last(*night, check(*plan)), [-7, one, other])

    def test_of_several_that_lie_together_the_first_told(self):
        twos = [(3, 0), (2, 1), (1, 3), (0, 2)]
        for turn in range(4):
            told = twos[turn:] + twos[:turn]
            night = [begins(5, 5, 5), *streets(4), *[together(one, other) for one, other in told]]
            first = told[0] if told[0] != (0, 2) else told[1]
            self.assertEqual(last(*night, check(0, 2, 4, 3, 4, 1)), [-7, *first])

    def test_of_several_that_lie_together_the_first_told_that_is_not_one_ploughs(self):
        night = [begins(5, 5, 5), *streets(4), together(0, 1), together(3, 1), together(2, 0)]
        self.assertEqual(last(*night, check(0, 1, 4, 2, 4, 3)), [-7, 3, 1])
        self.assertEqual(last(*night, check(0, 1, 3, 4, 4, 2)), [-7, 2, 0])
        self.assertEqual(last(*night, check(0, 4, 1, 4, 2, 3)), [-7, 0, 1])
        self.assertEqual(last(*night, check(4, 3, 1, 2, 0, 4))[0], 0)

    def test_apart_is_told_ahead_of_together(self):
        night = [begins(5, 5), *streets(3), together(0, 1), apart(2, 1)]
        self.assertEqual(last(*night, check(0, 3, 1, 2)), [-6, 2, 1])
        self.assertEqual(last(*night, check(0, 2, 3, 1)), [-7, 0, 1])
        self.assertEqual(last(*night, check(0, 1, 3, 2))[0], 0)

    def test_two_that_are_both(self):
        night = [begins(5, 5), *streets(2), together(1, 0), apart(0, 1)]
        self.assertEqual(last(*night, check(0, 1, 2)), [-6, 0, 1])
        self.assertEqual(last(*night, check(0, 2, 1)), [-7, 1, 0])

    def test_what_is_no_plan_is_told_ahead_of_apart_and_together(self):
        night = [begins(5, 5), *streets(3), apart(0, 1), together(0, 2)]
        self.assertEqual(last(*night, check(0, 1, 2)), [-4])
        self.assertEqual(last(*night, check(0, 1, 3)), [-4])
        self.assertEqual(last(*night, check(0, 1, 4, 2)), [-1])


class Best(unittest.TestCase):
    def test_no_streets(self):
        self.assertEqual(last(best()), [0, 0, 1, 1])
        self.assertEqual(last(begins(7), best()), [0, 0, 1, 1])
        self.assertEqual(last(begins(7, 8), best()), [0, 0, 1, 1, 0])
        self.assertEqual(last(begins(7, 8, 9), best()), [0, 0, 1, 1, 0, 0])

    def test_one_plough(self):
        self.assertEqual(last(begins(4), street(10, 5), best()), [0, 5, 2, 1, 0])
        self.assertEqual(last(street(2, 0), street(3, 50), best()), [0, 5, 1, 1, 1, 0])
        self.assertEqual(last(street(3, 50), street(2, 0), best()), [0, 5, 1, 1, 0, 1])

    def test_one_plough_and_streets_that_do_not_grow(self):
        for count, plans in ((1, 1), (2, 2), (3, 6), (4, 24)):
            self.assertEqual(
                last(begins(2), *streets(count), best()), [0, *self.halves(count), plans, *range(count)])

    def halves(self, count):
        return [count // 2, 1] if count % 2 == 0 else [count, 2]

    def test_a_fast_plough_and_a_slow_one(self):
        night = [street(10), street(30)]
        self.assertEqual(last(begins(1, 5), *night, best()), [0, 8, 1, 2, 2, 0, 1])
        self.assertEqual(last(begins(5, 1), *night, best()), [0, 8, 1, 2, 0, 1, 2])
        self.assertEqual(last(begins(2, 5), *night, best()), [0, 6, 1, 1, 0, 2, 1])
        self.assertEqual(last(begins(5, 2), *night, best()), [0, 6, 1, 1, 1, 2, 0])

    def test_ploughs_of_one_speed(self):
        self.assertEqual(last(begins(1, 1), street(4), best()), [0, 4, 1, 2, 0, 1])
        self.assertEqual(last(begins(1, 1, 1), street(4), best()), [0, 4, 1, 3, 0, 1, 1])
        self.assertEqual(last(begins(2, 2), street(4), street(4), best()), [0, 2, 1, 2, 0, 2, 1])
        self.assertEqual(
            last(begins(1, 1), street(6), street(3), street(3), best()), [0, 6, 1, 4, 0, 3, 1, 2])
        self.assertEqual(
            last(begins(1, 1), street(3), street(3), street(6), best()), [0, 6, 1, 4, 0, 1, 3, 2])

    def test_the_change_to_the_next_plough_decides_which_is_the_earlier(self):
        # Street 2 takes 10 minutes whatever is done with the others meanwhile:
        # three ploughs for it, and six ways to give the others to those left.
        night = [begins(1, 1, 1), street(1), street(1), street(10)]
        self.assertEqual(last(*night, best()), [0, 10, 1, 18, 0, 1, 3, 2, 3])
        # With street 0 the long one, the change behind it comes first of all:
        # a plan with 0, 1 would be earlier, but it's not as good.
        night = [begins(1, 1, 1), street(10), street(1), street(1)]
        self.assertEqual(last(*night, best()), [0, 10, 1, 18, 0, 3, 1, 2, 3])

    def test_apart_leaves_few_plans(self):
        night = [begins(1, 5), street(10), street(30)]
        self.assertEqual(last(*night, apart(1, 0), best()), [0, 10, 1, 1, 0, 2, 1])
        night = [begins(1, 1, 1), street(3), street(4), street(5), apart(0, 1), apart(1, 2), apart(2, 0)]
        self.assertEqual(last(*night, best()), [0, 5, 1, 6, 0, 3, 1, 3, 2])

    def test_together_leaves_few_plans(self):
        night = [begins(2, 5), street(10), street(30)]
        self.assertEqual(last(*night, together(1, 0), best()), [0, 8, 1, 2, 2, 0, 1])

    def test_apart_and_together_leave_few_plans(self):
        night = [begins(1, 1), street(1), street(20), street(30, 1), street(4)]
        self.assertEqual(
            last(*night, apart(3, 0), together(1, 2), together(2, 0), best()),
            [0, 51, 1, 4, 2, 0, 1, 4, 3])

    def test_the_order_matters_where_a_street_grows(self):
        # 1 ahead of 0 is as good as 0 ahead of 1 where neither grows.
        self.assertEqual(last(street(2), street(3), best()), [0, 5, 1, 2, 0, 1])
        self.assertEqual(last(street(2), street(3, 1), best()), [0, 5, 1, 1, 1, 0])
        self.assertEqual(last(street(2, 2), street(3, 3), best()), [0, 253, 50, 2, 0, 1])

    def test_no_plan_can_be_as_more_lie_apart_than_there_are_ploughs(self):
        self.assertEqual(last(begins(5), *streets(2), apart(0, 1), best()), [-6])
        three = [*streets(3), apart(0, 1), apart(2, 1), apart(0, 2)]
        self.assertEqual(last(begins(5, 5), *three, best()), [-6])
        self.assertEqual(last(begins(5, 5, 5), *three, best())[0], 0)
        four = [*streets(4), *[apart(one, other) for one in range(4) for other in range(one)]]
        self.assertEqual(last(begins(5, 5, 5), *four, best()), [-6])

    def test_no_plan_can_be_as_two_are_both_apart_and_together(self):
        for ploughs in ([5], [5, 5], [5, 5, 5]):
            night = [begins(*ploughs), *streets(2), apart(0, 1), together(1, 0)]
            self.assertEqual(last(*night, best()), [-6])
        night = [begins(5, 5, 5), *streets(3), together(0, 1), together(1, 2), apart(0, 2)]
        self.assertEqual(last(*night, best()), [-6])

    def test_the_lowest_terms_and_the_whole_row(self):
        night = [begins(100, 100), *[street(1000, 0) for number in range(4)]]
        self.assertEqual(last(*night, best()), [0, 20, 1, 24, 0, 1, 4, 2, 3])

    def test_shared_out_as_if_no_more_fell_is_not_it(self):
        # As if no more fell, 12 and 12 would be the soonest, of streets 0 and 3
        # and of 1 and 2. What falls makes streets 1 and 2 too much for one.
        night = [begins(1, 1), street(8), street(6, 100), street(6, 100), street(4)]
        self.assertEqual(last(*night, check(0, 3, 4, 1, 2)), [0, 18, 1, 12, 1, 18, 1])
        self.assertEqual(last(*night, best()), [0, 14, 1, 8, 1, 0, 4, 2, 3])


class Ratio(unittest.TestCase):
    def test_no_streets(self):
        self.assertEqual(last(ratio()), [1, 0, 1])
        self.assertEqual(last(begins(7), ratio()), [1, 0, 1])
        self.assertEqual(last(begins(7, 8), ratio()), [1, 0, 1, 0])
        self.assertEqual(last(begins(7, 8, 9), ratio()), [1, 0, 1, 0, 0])

    def test_the_one_with_less_to_clear_by_its_growth_stands_ahead(self):
        self.assertEqual(last(street(10, 2), street(9, 3), ratio(0, 0)), [1, 959, 50, 1, 0])
        self.assertEqual(last(street(10, 20), street(30, 50), ratio(0, 0)), [1, 45, 1, 0, 1])
        self.assertEqual(last(street(30, 50), street(10, 20), ratio(0, 0)), [1, 45, 1, 1, 0])

    def test_the_ratio_is_a_fraction_and_is_not_cut(self):
        # 5/3 and 3/2, both cut to 1; 5/3 and 7/4; 1000/100 and 999/99.
        self.assertEqual(last(street(5, 3), street(3, 2), ratio(0, 0))[3:], [1, 0])
        self.assertEqual(last(street(3, 2), street(5, 3), ratio(0, 0))[3:], [0, 1])
        self.assertEqual(last(street(7, 4), street(5, 3), ratio(0, 0))[3:], [1, 0])
        self.assertEqual(last(street(999, 99), street(1000, 100), ratio(0, 0))[3:], [1, 0])

    def test_neither_the_metres_nor_the_hundredths_alone_decide(self):
        self.assertEqual(last(street(1, 1), street(90, 100), ratio(0, 0))[3:], [1, 0])
        self.assertEqual(last(street(100, 100), street(10, 5), ratio(0, 0))[3:], [0, 1])

    def test_of_one_ratio_the_lower_number_first(self):
        self.assertEqual(last(street(10, 5), street(6, 3), street(2, 1), ratio(0, 0, 0))[3:], [0, 1, 2])
        self.assertEqual(last(street(2, 1), street(6, 3), street(10, 5), ratio(0, 0, 0))[3:], [0, 1, 2])
        self.assertEqual(
            last(street(10, 5), street(1, 1), street(6, 3), street(8, 4), ratio(0, 0, 0, 0))[3:],
            [1, 0, 2, 3])

    def test_streets_that_do_not_grow_stand_behind_all_that_do(self):
        self.assertEqual(last(street(1, 0), street(1000, 1), ratio(0, 0))[3:], [1, 0])
        self.assertEqual(last(street(1000, 1), street(1, 0), ratio(0, 0))[3:], [0, 1])
        self.assertEqual(
            last(street(1, 0), street(9, 3), street(1, 0), street(8, 4), ratio(0, 0, 0, 0))[3:],
            [3, 1, 0, 2])

    def test_among_streets_that_do_not_grow_the_lower_number_first(self):
        for metres in ([9, 5, 1], [1, 5, 9], [5, 9, 1], [5, 5, 5]):
            night = [street(number, 0) for number in metres]
            self.assertEqual(last(*night, ratio(0, 0, 0)), [1, sum(metres), 1, 0, 1, 2])

    def test_each_plough_in_its_own_order(self):
        night = [begins(1, 2, 5), street(8, 1), street(6, 1), street(4, 2), street(3, 3)]
        self.assertEqual(last(*night, ratio(1, 0, 1, 0))[3:], [3, 1, 4, 2, 0, 4])
        self.assertEqual(last(*night, ratio(2, 2, 2, 2))[3:], [4, 4, 3, 2, 1, 0])
        self.assertEqual(last(*night, ratio(2, 0, 1, 0))[3:], [3, 1, 4, 2, 4, 0])

    def test_a_plough_with_no_streets(self):
        night = [begins(1, 2, 3), street(6), street(12)]
        self.assertEqual(last(*night, ratio(1, 2)), [1, 4, 1, 2, 0, 2, 1])
        self.assertEqual(last(*night, ratio(0, 2)), [1, 6, 1, 0, 2, 2, 1])
        self.assertEqual(last(*night, ratio(0, 1)), [1, 6, 1, 0, 2, 1, 2])
        self.assertEqual(last(*night, ratio(2, 2)), [1, 6, 1, 2, 2, 0, 1])
        self.assertEqual(last(*night, ratio(0, 0)), [1, 18, 1, 0, 1, 2, 2])

    def test_when_all_is_clear_is_told_in_lowest_terms(self):
        self.assertEqual(last(begins(4, 4), street(10), street(2), ratio(0, 1)), [1, 5, 2, 0, 2, 1])

    def test_a_plan_that_cannot_be_is_told_all_the_same(self):
        night = [begins(1, 2), street(6), street(12)]
        self.assertEqual(last(*night, apart(0, 1), ratio(1, 1)), [0, 9, 1, 2, 0, 1])
        self.assertEqual(last(*night, apart(1, 0), ratio(0, 1)), [1, 6, 1, 0, 2, 1])
        self.assertEqual(last(*night, together(0, 1), ratio(0, 1)), [0, 6, 1, 0, 2, 1])
        self.assertEqual(last(*night, together(1, 0), ratio(1, 1)), [1, 9, 1, 2, 0, 1])
        self.assertEqual(last(*night, apart(0, 1), together(0, 1), ratio(0, 1)), [0, 6, 1, 0, 2, 1])
        self.assertEqual(last(*night, apart(0, 1), together(0, 1), ratio(1, 1)), [0, 9, 1, 2, 0, 1])

    def test_what_it_answers_first_is_a_whole_number(self):
        night = [begins(1, 2), street(6), street(12), apart(0, 1)]
        for owners in ((0, 1), (0, 0)):
            self.assertIs(type(last(*night, ratio(*owners))[0]), int)

    def test_not_as_many_numbers_as_there_are_streets(self):
        for count in range(5):
            for length in range(7):
                answer = 1 if length == count else -1
                told = last(begins(5, 5), *streets(count), ratio(*[1] * length))
                self.assertEqual(told[0], answer)
                self.assertEqual(told == [-1], length != count)

    def test_a_plough_that_is_not_there(self):
        for ploughs in ([5], [5, 5], [5, 5, 5]):
            night = [begins(*ploughs), *streets(3)]
            for number in (0, 1, 2, 3, 4, BIGGEST):
                for owners in ((number, 0, 0), (0, number, 0), (0, 0, number)):
                    told = last(*night, ratio(*owners))
                    self.assertEqual(told == [-1], number >= len(ploughs))

    def test_it_can_be_later_than_the_best(self):
        night = [street(2, 1), street(3, 100), street(3, 100)]
        self.assertEqual(last(*night, ratio(0, 0, 0))[3:], [1, 2, 0])


class Needs(unittest.TestCase):
    def test_no_streets(self):
        for ploughs in ([5], [5, 5], [5, 5, 5]):
            for plough in range(len(ploughs)):
                for minute in (0, 1, 5000):
                    self.assertEqual(last(begins(*ploughs), needs(plough, minute)), [1])

    def test_the_plough_of_the_beginning(self):
        self.assertEqual(ask(needs(0, 0)), [[1]])
        self.assertEqual(last(street(10), needs(0, 5)), [2])

    def test_just_on_time_and_a_minute_less(self):
        for minute, answer in ((10, 1), (9, 2), (5, 2), (4, 3), (3, 4), (2, 5), (1, 10), (11, 1)):
            self.assertEqual(last(street(10), needs(0, minute)), [answer])

    def test_minute_0(self):
        self.assertEqual(last(needs(0, 0)), [1])
        self.assertEqual(last(street(1), needs(0, 0)), [-6])
        self.assertEqual(last(begins(1000, 1000), street(1), needs(0, 0)), [-6])

    def test_the_answer_1000_and_not_even_1000(self):
        self.assertEqual(last(street(1000), needs(0, 1)), [1000])
        self.assertEqual(last(street(999), needs(0, 1)), [999])
        self.assertEqual(last(street(1000), street(1), needs(0, 1)), [-6])
        self.assertEqual(last(street(1000), street(1), needs(0, 2)), [501])
        self.assertEqual(last(street(1000), street(1000), needs(0, 2)), [1000])

    def test_what_falls_is_looked_at(self):
        self.assertEqual(last(street(1000), street(1000), needs(0, 3)), [667])
        self.assertEqual(last(street(1000, 100), street(1000, 100), needs(0, 3)), [668])
        self.assertEqual(last(street(1000, 100), street(1000, 100), needs(0, 2)), [-6])

    def test_in_the_order_that_lets_it_be_slowest(self):
        # At 1 metre a minute: 5 minutes with street 1 first, 6 with street 0.
        night = [street(2, 0), street(3, 50)]
        self.assertEqual(last(*night, needs(0, 5)), [1])
        self.assertEqual(last(*night, needs(0, 4)), [2])

    def test_minute_5000_and_5001(self):
        self.assertEqual(last(street(1000), needs(0, 5000)), [1])
        for minute in (5001, 5002, BIGGEST):
            self.assertEqual(last(street(1000), needs(0, minute)), [-1])
            self.assertEqual(last(needs(0, minute)), [-1])

    def test_a_plough_that_is_not_there(self):
        for ploughs in ([5], [5, 5], [5, 5, 5]):
            for plough in (0, 1, 2, 3, 4, BIGGEST):
                answer = 1 if plough < len(ploughs) else -2
                self.assertEqual(last(begins(*ploughs), needs(plough, 7)), [answer])

    def test_no_such_plough_is_told_ahead_of_the_minute(self):
        for minute in (5001, BIGGEST):
            self.assertEqual(last(needs(1, minute)), [-2])
            self.assertEqual(last(begins(5, 5, 5), needs(3, minute)), [-2])
            self.assertEqual(last(begins(5, 5, 5), needs(2, minute)), [-1])

    def test_both_are_told_ahead_of_what_is_not_enough(self):
        night = [*streets(2), apart(0, 1)]
        self.assertEqual(last(*night, needs(0, 5000)), [-6])
        self.assertEqual(last(*night, needs(0, 5001)), [-1])
        self.assertEqual(last(*night, needs(1, 5000)), [-2])
        self.assertEqual(last(street(), needs(1, 0)), [-2])

    def test_no_plan_can_be(self):
        self.assertEqual(last(begins(9), *streets(2), apart(0, 1), needs(0, 5000)), [-6])
        night = [begins(9, 9, 9), *streets(2), apart(0, 1), together(0, 1)]
        for plough in range(3):
            self.assertEqual(last(*night, needs(plough, 5000)), [-6])

    def test_each_plough_of_two_and_three(self):
        # 30 and 20 metres in 10 minutes: the other plough does 20 by itself.
        night = [street(30), street(20)]
        self.assertEqual(last(begins(1, 2), *night, needs(0, 10)), [3])
        self.assertEqual(last(begins(2, 1), *night, needs(1, 10)), [3])
        self.assertEqual(last(begins(1, 3), *night, needs(0, 10)), [2])
        self.assertEqual(last(begins(1, 5), *night, needs(0, 10)), [1])
        self.assertEqual(last(begins(1, 1), *night, needs(0, 10)), [5])
        night = [street(30), street(20), street(40)]
        self.assertEqual(last(begins(1, 2, 3), *night, needs(0, 10)), [4])
        self.assertEqual(last(begins(4, 1, 3), *night, needs(1, 10)), [2])
        self.assertEqual(last(begins(4, 2, 1), *night, needs(2, 10)), [3])
        self.assertEqual(last(begins(4, 5, 1), *night, needs(2, 10)), [1])

    def test_another_plough_is_too_slow(self):
        night = [begins(1, 1), street(10), street(10), apart(0, 1)]
        for plough in range(2):
            self.assertEqual(last(*night, needs(plough, 10)), [1])
            self.assertEqual(last(*night, needs(plough, 9)), [-6])

    def test_only_plans_that_can_be(self):
        night = [begins(1, 2), street(30), street(20)]
        self.assertEqual(last(*night, together(0, 1), needs(0, 10)), [5])
        self.assertEqual(last(*night, together(0, 1), needs(1, 50)), [1])
        self.assertEqual(last(*night, apart(0, 1), needs(0, 10)), [3])
        night = [begins(1, 50), street(30), street(20)]
        self.assertEqual(last(*night, needs(0, 10)), [1])
        self.assertEqual(last(*night, apart(0, 1), needs(0, 10)), [2])

    def test_its_own_speed_does_not_matter(self):
        for own in (1, 3, 1000):
            night = [street(30), street(20)]
            self.assertEqual(last(begins(own, 2), *night, needs(0, 10)), [3])
            self.assertEqual(last(begins(2, own), *night, needs(1, 10)), [3])

    def test_its_own_speed_is_not_changed(self):
        night = [begins(7, 2), street(30), street(20)]
        asked = [check(0, 2, 1), best(), ratio(0, 1)]
        told = ask(*night, *asked)[3:]
        self.assertEqual(told[0], [0, 10, 1, 30, 7, 10, 1])
        for behind in (needs(0, 10), needs(1, 10), needs(0, 0), needs(0, 5001), needs(2, 1)):
            self.assertEqual(ask(*night, behind, *asked)[4:], told)


class TheNight(unittest.TestCase):
    asked = (check(), check(1, 0), check(0, 1), check(0, 2, 1), check(0, 1, 2), check(2, 0, 1),
             best(), ratio(), ratio(0, 0), ratio(0, 1), needs(0, 8), needs(1, 8))

    def test_begins_forgets_the_streets(self):
        ahead = [begins(3, 4), street(10), street(20, 30)]
        for ploughs in ([5], [5, 6], [5, 6, 7]):
            self.assertEqual(
                ask(*ahead, begins(*ploughs), *self.asked)[4:], ask(begins(*ploughs), *self.asked)[1:])

    def test_begins_forgets_apart_and_together(self):
        ahead = [begins(3, 4), *streets(2), apart(0, 1), together(0, 1)]
        behind = [begins(5, 6), street(10), street(20, 30)]
        told = ask(*ahead, *behind, *self.asked)[8:]
        self.assertEqual(told, ask(*behind, *self.asked)[3:])
        self.assertEqual(told[self.asked.index(check(0, 2, 1))][0], 0)
        self.assertEqual(told[self.asked.index(check(0, 1, 2))][0], 0)
        self.assertEqual(told[self.asked.index(best())][0], 0)
        self.assertEqual(told[self.asked.index(ratio(0, 1))][0], 1)
        self.assertEqual(told[self.asked.index(ratio(0, 0))][0], 1)
        self.assertNotEqual(told[self.asked.index(needs(0, 8))], [-6])

    def test_a_refusal_leaves_all_as_it_was(self):
        night = [begins(3, 4), street(10), street(20, 30), street(5), street(7, 3), apart(0, 3)]
        asked = [check(0, 4, 1, 2, 3), best(), ratio(0, 1, 1, 1), needs(0, 8)]
        told = ask(*night, *asked)[6:]
        self.assertEqual([one[0] for one in told[:3]], [0, 0, 1])
        refused = [
            (begins(), [-1]), (begins(5, 1001), [-1]), (street(0, 0), [-1]), (street(), [-5]),
            (apart(0, 4), [-2]), (apart(3, 0), [-4]), (together(4, 0), [-2]), (together(1, 1), [-4]),
            (check(5), [-1]), (check(0, 1, 2, 3), [-4]), (check(0, 3, 4, 1, 2), [-6, 0, 3]),
            (ratio(0, 1), [-1]), (ratio(0, 1, 2, 0), [-1]), (needs(2, 8), [-2]),
            (needs(1, 5001), [-1]), (needs(0, 0), [-6])]
        for call, answer in refused:
            self.assertEqual(ask(*night, call, *asked)[6:], [answer, *told])

    def test_what_is_asked_leaves_all_as_it_was(self):
        night = [begins(3, 4), street(10), street(20, 30), together(0, 1)]
        for first in self.asked:
            for second in (check(2, 1, 0), check(0, 2, 1), best(), ratio(1, 1), needs(1, 9), street()):
                self.assertEqual(ask(*night, first, second)[5:], ask(*night, second)[4:])

    def test_streets_and_what_is_told_of_them_between(self):
        self.assertEqual(
            ask(begins(1, 2), best(), street(6), best(), street(9), best(), together(1, 0), best(),
                apart(0, 1), best(), begins(3), best()),
            [[0], [0, 0, 1, 1, 0], [0], [0, 3, 1, 1, 1, 0], [1], [0, 6, 1, 1, 0, 2, 1], [0],
             [0, 15, 2, 2, 2, 0, 1], [0], [-6], [0], [0, 0, 1, 1]])

    def test_the_counts_ahead_of_the_answers(self):
        calls = [begins(1, 2, 3), street(6), check(0, 1, 1), best(), ratio(2), needs(1, 9),
                 check(9), street(), apart(0, 1), check(0, 1, 2, 2), together(1, 0),
                 check(0, 2, 1, 2), begins(5), best()]
        self.assertEqual(
            answers([number for call in calls for number in call]),
            [1, 0, 1, 0, 9, 0, 6, 1, 6, 1, 0, 1, 0, 1, 7, 0, 2, 1, 1, 1, 1, 0, 6, 1, 2, 1, 1, 1, 0,
             1, 1, 1, -1, 1, 1, 1, 0, 3, -6, 0, 1, 1, 0, 3, -7, 1, 0, 1, 0, 4, 0, 0, 1, 1])

    def test_the_night_of_the_readme(self):
        self.assertEqual(
            answers([0, 2, 1, 5, 1, 10, 0, 1, 30, 50, 4, 3, 0, 2, 1, 5, 7, 0, 7]),
            [1, 0, 1, 0, 1, 1, 7, 0, 10, 1, 10, 1, 6, 1, 7, 0, 8, 1, 1, 2, 1, 0, 1, 2])

    def test_sixty_calls_of_the_dearest_kind_are_answered_soon(self):
        calls = [begins(997, 991, 983)]
        calls += [street(1000 - number, 97 + number) for number in range(4)]
        calls += [check(0, 1, 4, 2, 4, 3), ratio(0, 1, 2, 0)] * 24 + [apart(0, 1)]
        calls += [best()] * 4 + [needs(0, 1), needs(2, 2)]
        self.assertEqual(len(calls), 60)
        begun = time.perf_counter()
        told = ask(*calls)
        self.assertLess(time.perf_counter() - begun, 5)
        self.assertEqual(len(told), 60)
        self.assertEqual([len(one) for one in told[-6:-2]], [10, 10, 10, 10])


if __name__ == "__main__":
    unittest.main()
