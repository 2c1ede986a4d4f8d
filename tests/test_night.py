import contextlib
import io
import unittest
import unittest.mock

from snowploughsdesk.night import Night, answers, read_calls

BIGGEST = 4294967295


def begins(*ploughs):
    return [0, len(ploughs), *ploughs]


def street(metres=1, hundredths=0):
    return [1, metres, hundredths]


def apart(one, other):
    return [2, one, other]


def together(one, other):
    return [3, one, other]


def list_of(calls):
    return [number for call in calls for number in call]


def ask(*calls):
    """What each call answers: its numbers, without their count."""
    told = answers(list_of(calls))
    found = []
    while told:
        found.append(told[1:1 + told[0]])
        told = told[1 + told[0]:]
    return found


def last(*calls):
    return ask(*calls)[-1]


class Begins(unittest.TestCase):
    def test_one_to_three_ploughs(self):
        for ploughs in ([5], [5, 7], [5, 7, 9], [5, 5, 5]):
            self.assertEqual(ask(begins(*ploughs)), [[0]])

    def test_no_ploughs_or_four(self):
        self.assertEqual(ask(begins()), [[-1]])
        self.assertEqual(ask(begins(5, 6, 7, 8)), [[-1]])

    def test_metres_a_minute_at_the_edges_in_each_place(self):
        for metres, answer in ((0, -1), (1, 0), (1000, 0), (1001, -1), (BIGGEST, -1)):
            self.assertEqual(ask(begins(metres)), [[answer]])
            self.assertEqual(ask(begins(metres, 5)), [[answer]])
            self.assertEqual(ask(begins(5, metres)), [[answer]])
            self.assertEqual(ask(begins(metres, 5, 6)), [[answer]])
            self.assertEqual(ask(begins(5, metres, 6)), [[answer]])
            self.assertEqual(ask(begins(5, 6, metres)), [[answer]])

    def test_after_it_there_are_no_streets(self):
        self.assertEqual(
            ask(street(), street(), begins(5), apart(0, 1), together(0, 1), street(), street()),
            [[0], [1], [0], [-2], [-2], [0], [1]])

    def test_after_it_there_is_room_for_four_streets_again(self):
        four = [street()] * 4
        self.assertEqual(
            ask(*four, street(), begins(5), *four, street()),
            [[0], [1], [2], [3], [-5], [0], [0], [1], [2], [3], [-5]])

    def test_after_it_nothing_is_told_of_apart_and_together(self):
        ahead = [street(), street(), apart(0, 1), together(1, 0), begins(5), street(), street()]
        self.assertEqual(last(*ahead, apart(0, 1)), [0])
        self.assertEqual(last(*ahead, together(0, 1)), [0])

    def test_after_a_refusal_all_is_as_it_was(self):
        ahead = [begins(5, 6), street(), street(), apart(0, 1), together(1, 0)]
        for wrong in ([], [0], [5, 1001], [7, 8, BIGGEST], [1, 2, 3, 4]):
            self.assertEqual(
                ask(*ahead, begins(*wrong), apart(0, 1), together(0, 1), street())[5:],
                [[-1], [-4], [-4], [2]])

    def test_the_ploughs_are_those_of_the_last_begins_that_was_not_refused(self):
        night = Night()
        self.assertEqual(night.ploughs, [1])
        night.begin([5, 6])
        self.assertEqual(night.ploughs, [5, 6])
        for wrong in ([], [0], [7, 1001], [7, 8, 0], [1, 2, 3, 4]):
            self.assertEqual(night.begin(wrong), [-1])
            self.assertEqual(night.ploughs, [5, 6])
        night.begin([1000])
        self.assertEqual(night.ploughs, [1000])


class Street(unittest.TestCase):
    def test_the_numbers_in_turn_and_the_fifth(self):
        self.assertEqual(
            ask(begins(5), street(), street(), street(), street(), street(), street()),
            [[0], [0], [1], [2], [3], [-5], [-5]])

    def test_it_can_be_the_first_call(self):
        self.assertEqual(ask(street(7, 3)), [[0]])

    def test_metres_at_the_edges(self):
        for metres, answer in ((0, -1), (1, 0), (1000, 0), (1001, -1), (BIGGEST, -1)):
            self.assertEqual(ask(street(metres, 5)), [[answer]])

    def test_hundredths_at_the_edges(self):
        for hundredths, answer in ((0, 0), (1, 0), (100, 0), (101, -1), (BIGGEST, -1)):
            self.assertEqual(ask(street(5, hundredths)), [[answer]])

    def test_both_wrong(self):
        self.assertEqual(ask(street(0, 101)), [[-1]])
        self.assertEqual(ask(street(1001, 101)), [[-1]])

    def test_wrong_numbers_are_told_ahead_of_a_fifth_street(self):
        four = [street()] * 4
        for wrong in (street(0, 0), street(1001, 0), street(1, 101)):
            self.assertEqual(last(*four, wrong), [-1])

    def test_after_a_refusal_all_is_as_it_was(self):
        self.assertEqual(
            ask(street(0, 0), street(), street(1, 101), apart(0, 1), street(1001, 1), street(),
                apart(0, 1), street(0, 0), apart(0, 1)),
            [[-1], [0], [-1], [-2], [-1], [1], [0], [-1], [-4]])

    def test_after_a_fifth_street_there_are_still_four(self):
        four = [street()] * 4
        self.assertEqual(
            ask(*four, apart(0, 3), street(), apart(0, 4), apart(0, 3), apart(1, 3))[5:],
            [[-5], [-2], [-4], [0]])

    def test_what_is_told_of_each_is_kept(self):
        night = Night()
        night.add_street(1000, 0)
        night.add_street(1001, 0)
        night.add_street(1, 100)
        self.assertEqual(night.streets, [(1000, 0), (1, 100)])


class ApartAndTogether(unittest.TestCase):
    calls = (apart, together)

    def test_every_two_streets_at_each_count_of_streets(self):
        for tell in self.calls:
            for count in range(5):
                for one in (0, 1, 2, 3, 4, 5, BIGGEST):
                    for other in (0, 1, 2, 3, 4, 5, BIGGEST):
                        answer = 0
                        if one >= count or other >= count:
                            answer = -2
                        elif one == other:
                            answer = -4
                        self.assertEqual(last(*[street()] * count, tell(one, other)), [answer])

    def test_a_street_that_is_not_there(self):
        for tell in self.calls:
            self.assertEqual(
                ask(street(), street(), tell(0, 2), tell(2, 0), tell(2, 3), tell(0, BIGGEST))[2:],
                [[-2], [-2], [-2], [-2]])

    def test_both_the_same(self):
        for tell in self.calls:
            self.assertEqual(ask(street(), street(), tell(0, 0), tell(1, 1))[2:], [[-4], [-4]])

    def test_not_there_is_told_ahead_of_both_the_same(self):
        for tell in self.calls:
            self.assertEqual(ask(tell(0, 0)), [[-2]])
            self.assertEqual(last(street(), tell(1, 1)), [-2])

    def test_told_again_either_way_round(self):
        for tell in self.calls:
            for one, other in ((0, 1), (1, 0)):
                self.assertEqual(
                    ask(street(), street(), tell(one, other), tell(one, other), tell(other, one))[2:],
                    [[0], [-4], [-4]])

    def test_all_six_twos_of_four_streets(self):
        twos = [(0, 1), (2, 0), (0, 3), (2, 1), (1, 3), (3, 2)]
        for tell in self.calls:
            first = [tell(one, other) for one, other in twos]
            turned = [tell(other, one) for one, other in twos]
            self.assertEqual(
                ask(*[street()] * 4, *first, *first, *turned)[4:],
                [[0]] * 6 + [[-4]] * 12)

    def test_apart_says_nothing_against_together_and_the_other_way_round(self):
        for tell, also in ((apart, together), (together, apart)):
            for one, other in ((0, 1), (1, 0)):
                self.assertEqual(
                    ask(street(), street(), tell(0, 1), also(one, other), tell(0, 1), also(0, 1))[2:],
                    [[0], [0], [-4], [-4]])

    def test_after_a_refusal_all_is_as_it_was(self):
        for tell in self.calls:
            self.assertEqual(
                ask(street(), street(), tell(0, 2), tell(2, 1), tell(1, 1), street(),
                    tell(0, 2), tell(2, 1), tell(0, 1), tell(1, 0), street(), tell(0, 1))[2:],
                [[-2], [-2], [-4], [2], [0], [0], [0], [-4], [3], [-4]])

    def test_they_are_kept_as_told_and_in_the_order_told(self):
        night = Night()
        for number in range(4):
            night.add_street(1, 0)
        for one, other in ((3, 1), (0, 2), (1, 3), (2, 2), (2, 1), (4, 0)):
            night.tell_apart(one, other)
        for one, other in ((2, 0), (1, 0), (0, 1), (0, 9)):
            night.tell_together(one, other)
        self.assertEqual(night.apart, [(3, 1), (0, 2), (2, 1)])
        self.assertEqual(night.together, [(2, 0), (1, 0)])


class Answers(unittest.TestCase):
    def test_lists_of_one_call(self):
        self.assertEqual(answers([0, 1, 5]), [1, 0])
        self.assertEqual(answers([0, 0]), [1, -1])
        self.assertEqual(answers([1, 5, 0]), [1, 0])
        self.assertEqual(answers([1, 0, 0]), [1, -1])
        self.assertEqual(answers([2, 0, 1]), [1, -2])
        self.assertEqual(answers([3, 0, 1]), [1, -2])

    def test_a_list_of_several_calls(self):
        self.assertEqual(
            answers([0, 2, 5, 6, 1, 10, 20, 1, 30, 40, 2, 0, 1, 3, 1, 1, 0, 4, 1, 1, 1, 1, 1, 7, 7]),
            [1, 0, 1, 0, 1, 1, 1, 0, 1, -4, 1, -1, 1, 2])

    def test_a_row_of_none_is_followed_by_the_next_call(self):
        self.assertEqual(answers([0, 0, 1, 5, 0, 0, 0, 1, 5, 0]), [1, -1, 1, 0, 1, -1, 1, 1])

    def test_sixty_calls(self):
        calls = [begins(5)] + [street()] * 6 + [apart(0, 1)] * 20 + [together(2, 3)] * 20
        calls = calls + [begins(5, 0)] * 12 + [begins(1, 2, 3)]
        self.assertEqual(len(calls), 60)
        answered = [0] + [0, 1, 2, 3, -5, -5] + [0] + [-4] * 19 + [0] + [-4] * 19 + [-1] * 12 + [0]
        self.assertEqual(answers(list_of(calls)), list_of([[1, number] for number in answered]))

    def test_it_gives_back_a_list_of_whole_numbers(self):
        told = answers(list_of([begins(5), street(), street(), apart(0, 1), apart(9, 9)]))
        self.assertIs(type(told), list)
        self.assertEqual([type(number) for number in told], [int] * len(told))

    def test_the_list_handed_in_is_not_changed_even_for_a_while(self):
        def refuse(*words, **named):
            raise AssertionError("the list handed in is changed")

        changes = ("append", "clear", "extend", "insert", "pop", "remove", "reverse", "sort",
                   "__setitem__", "__delitem__", "__iadd__", "__imul__")
        watched_kind = type("Watched", (list,), {name: refuse for name in changes})
        calls = list_of([
            begins(5, 6), street(), street(3, 4), [4, 3, 1, 0, 2], [5], [6, 2, 1, 0], [7, 1, 9],
            apart(0, 1), begins(), together(0, 1), [4, 3, 1, 0, 2], [5], [6, 2, 9, 9], [7, 1, 9]])
        watched = watched_kind(calls)
        self.assertEqual(answers(watched), answers(calls))
        self.assertEqual(list(watched), calls)

    def test_nothing_is_kept_from_one_time_to_the_next(self):
        calls = list_of([street(), street(), apart(0, 1), together(0, 1), begins(5, 6), street()])
        told = answers(calls)
        self.assertEqual(told, [1, 0, 1, 1, 1, 0, 1, 0, 1, 0, 1, 0])
        self.assertEqual(answers(calls), told)
        self.assertEqual(answers(apart(0, 1)), [1, -2])
        self.assertEqual(answers(street()), [1, 0])

    def test_nothing_is_kept_for_check_best_ratio_and_needs_either(self):
        answers(list_of([begins(5, 6), street(), street(), apart(0, 1), together(0, 1)]))
        told = [5, 0, 0, 1, 0, 1, 4, 0, 0, 1, 1, 3, 1, 0, 1, 1, 1]
        for turn in range(2):
            self.assertEqual(answers([4, 0, 5, 6, 0, 7, 0, 0]), told)

    def test_nothing_is_printed_or_read(self):
        calls = list_of([begins(5, 6), street(), [4, 2, 0, 1], [5], [6, 1, 0], [7, 0, 9], [4, 0]])
        output = io.StringIO()
        with contextlib.redirect_stdout(output), contextlib.redirect_stderr(output):
            with unittest.mock.patch("sys.stdin", None), unittest.mock.patch("builtins.open", None):
                answers(calls)
        self.assertEqual(output.getvalue(), "")

    def test_what_is_given_back_is_a_new_list_each_time(self):
        told = answers(street())
        told.append(7)
        self.assertEqual(answers(street()), [1, 0])


class Reading(unittest.TestCase):
    def test_every_call_as_it_is_handed_in(self):
        self.assertEqual(
            read_calls([5, 4, 3, 1, 9, 0, 7, 2, 5000, 6, 2, 0, 1, 5, 0, 0, 1, 8, 9,
                        2, 0, 1, 3, 1, 0, 4, 0, 6, 0, 5, 0, 1, 5]),
            [(5, []), (4, [1, 9, 0]), (7, [2, 5000]), (6, [0, 1]), (5, []), (0, []), (1, [8, 9]),
             (2, [0, 1]), (3, [1, 0]), (4, []), (6, []), (5, []), (0, [5])])


if __name__ == "__main__":
    unittest.main()
