"""Possible steps, single steps, runs and their weights."""

import itertools
import unittest

from pilereach.errors import NoStep
from pilereach.machine import Machine, Step
from pilereach.runs import follow, possible, take, weight_of

BIG = 10 ** 60


def small_machine():
    return Machine(
        2,
        3,
        [
            Step(0, 0, 1, (), 5),  # 0 takes off
            Step(0, 1, 0, (2,), 0),  # 1 changes the top
            Step(1, 2, 0, (1, 0), 7),  # 2 lays two
            Step(0, 0, 0, (0, 1), 2),  # 3 is possible where 0 is
            Step(1, 0, 1, (), 10 ** 9),  # 4 has another state than 0
            Step(0, 0, 1, (), 5),  # 5 equals 0
        ],
    )


def tall_machine():
    """Step 0 lays a letter more, 1 takes one off, 2 changes the top, 3 the state."""
    return Machine(2, 2, [Step(0, 0, 0, (0, 1), 3), Step(0, 0, 0, (), 4), Step(0, 1, 0, (0,), 5), Step(0, 0, 1, (0,))])


def small_configurations():
    piles = [pile for height in range(4) for pile in itertools.product(range(3), repeat=height)]
    return [(state, pile) for state in range(2) for pile in piles]


class RunsTest(unittest.TestCase):
    def setUp(self):
        self.machine = small_machine()

    def tearDown(self):
        # No function may have changed the machine that it was given.
        self.assertEqual(self.machine, small_machine())

    def check_no_step(self, index, function, *arguments):
        with self.assertRaises(NoStep) as caught:
            function(*arguments)
        self.assertIs(type(caught.exception), NoStep)
        self.assertEqual(caught.exception.index, index)


class PossibleTest(RunsTest):
    def test_steps_with_this_state_and_this_letter_on_top(self):
        self.assertEqual(possible(self.machine, (0, (0,))), [0, 3, 5])
        self.assertEqual(possible(self.machine, (0, (0, 1, 2))), [0, 3, 5])
        self.assertEqual(possible(self.machine, (0, (1, 0))), [1])
        self.assertEqual(possible(self.machine, (1, (2, 2))), [2])
        self.assertEqual(possible(self.machine, (1, (0, 0))), [4])

    def test_no_steps(self):
        self.assertEqual(possible(self.machine, (0, (2, 0))), [])
        self.assertEqual(possible(self.machine, (1, (1, 0, 2))), [])
        self.assertEqual(possible(Machine(1, 1, []), (0, (0,))), [])

    def test_the_empty_pile(self):
        self.assertEqual(possible(self.machine, (0, ())), [])
        self.assertEqual(possible(self.machine, (1, ())), [])

    def test_it_is_a_new_list(self):
        found = possible(self.machine, (0, (0,)))
        self.assertIs(type(found), list)
        found.append(9)
        self.assertEqual(possible(self.machine, (0, (0,))), [0, 3, 5])

    def test_all_steps_of_a_large_machine_ascend(self):
        machine = Machine(2, 1, [Step(index % 2, 0, 0) for index in range(2_000)])
        self.assertEqual(possible(machine, (1, (0,) * 300)), list(range(1, 2_000, 2)))

    def test_parameters_go_by_name(self):
        self.assertEqual(possible(configuration=(0, (1,)), machine=self.machine), [1])


class TakeTest(RunsTest):
    def check_take(self, configuration, index, reached):
        found = take(self.machine, configuration, index)
        self.assertEqual(found, reached)
        self.assertIs(type(found), tuple)
        self.assertIs(type(found[1]), tuple)

    def test_a_step_that_lays_none(self):
        self.check_take((0, (0,)), 0, (1, ()))
        self.check_take((0, (0, 1, 2)), 0, (1, (1, 2)))

    def test_a_step_that_lays_one(self):
        self.check_take((0, (1,)), 1, (0, (2,)))
        self.check_take((0, (1, 0, 0)), 1, (0, (2, 0, 0)))

    def test_a_step_that_lays_two_has_the_first_one_on_top(self):
        self.check_take((1, (2,)), 2, (0, (1, 0)))
        self.check_take((1, (2, 2, 1)), 2, (0, (1, 0, 2, 1)))
        self.check_take((0, (0, 2)), 3, (0, (0, 1, 2)))

    def test_other_steps_with_the_same_state_and_letter(self):
        self.check_take((0, (0, 2)), 5, (1, (2,)))
        self.check_take((1, (0, 2)), 4, (1, (2,)))

    def test_a_high_pile(self):
        pile = tuple(index % 3 for index in range(299))
        self.check_take((1, (2,) + pile), 2, (0, (1, 0) + pile))

    def test_numbers_that_no_step_has(self):
        for index in (-1, -2, -6, -7, 6, 7, BIG, -BIG):
            with self.subTest(index=index):
                for configuration in ((0, (0,)), (0, (0, 1)), (1, (0,)), (0, (2,)), (0, ())):
                    self.check_no_step(index, take, self.machine, configuration, index)

    def test_numbers_that_are_larger_than_what_python_writes_out(self):
        for index in (10 ** 5_000, -(10 ** 5_000)):
            self.check_no_step(index, take, self.machine, (0, (0,)), index)
            self.check_no_step(1, follow, self.machine, (0, (0, 0)), (0, index))

    def test_a_machine_without_steps(self):
        for index in (0, 1, -1):
            with self.subTest(index=index):
                self.check_no_step(index, take, Machine(1, 1, []), (0, (0,)), index)

    def test_another_state_or_another_letter_on_top(self):
        self.check_no_step(0, take, self.machine, (1, (0,)), 0)
        self.check_no_step(0, take, self.machine, (0, (1, 0)), 0)
        self.check_no_step(4, take, self.machine, (0, (0,)), 4)
        self.check_no_step(2, take, self.machine, (1, (1, 2)), 2)

    def test_with_the_empty_pile_no_step_is_possible(self):
        for index in range(6):
            for state in range(2):
                self.check_no_step(index, take, self.machine, (state, ()), index)

    def test_exactly_the_possible_steps_are_taken(self):
        for configuration in small_configurations():
            taken = []
            for index in range(-7, 13):
                try:
                    take(self.machine, configuration, index)
                    taken.append(index)
                except NoStep as error:
                    self.assertEqual(error.index, index)
            self.assertEqual(possible(self.machine, configuration), taken)

    def test_the_configuration_is_not_changed_and_the_result_is_the_same_again(self):
        configuration = (1, (2, 2, 1))
        for _ in range(3):
            self.check_take(configuration, 2, (0, (1, 0, 2, 1)))
        self.assertEqual(configuration, (1, (2, 2, 1)))

    def test_parameters_go_by_name(self):
        self.assertEqual(take(index=0, configuration=(0, (0,)), machine=self.machine), (1, ()))


class FollowTest(RunsTest):
    def check_follow(self, configuration, run, reached, machine=None):
        for kind in (list, tuple):
            passed = kind(run)
            found = follow(machine or self.machine, configuration, passed)
            self.assertEqual(found, reached)
            self.assertIs(type(found), tuple)
            self.assertIs(type(found[1]), tuple)
            self.assertEqual(passed, kind(run))

    def check_stops(self, place, configuration, run, machine=None):
        for kind in (list, tuple):
            passed = kind(run)
            self.check_no_step(place, follow, machine or self.machine, configuration, passed)
            self.assertEqual(passed, kind(run))

    def test_the_empty_run_leads_to_the_configuration_itself(self):
        for configuration in small_configurations():
            self.check_follow(configuration, (), configuration)

    def test_one_step(self):
        self.check_follow((0, (0, 1)), (0,), (1, (1,)))
        self.check_follow((0, (1, 2)), (1,), (0, (2, 2)))
        self.check_follow((1, (2, 2)), (2,), (0, (1, 0, 2)))

    def test_one_step_leads_where_take_leads(self):
        for configuration in small_configurations():
            for index in possible(self.machine, configuration):
                self.check_follow(configuration, (index,), take(self.machine, configuration, index))

    def test_steps_one_after_another(self):
        self.check_follow((1, (2, 2)), (2, 1), (0, (2, 0, 2)))
        self.check_follow((0, (0, 2)), (3, 0), (1, (1, 2)))
        self.check_follow((0, (0, 2)), (3, 3, 3), (0, (0, 1, 1, 1, 2)))
        self.check_follow((0, (0, 2)), (5, 2, 1), (0, (2, 0)))
        self.check_follow((0, (0, 0, 0)), (0, 4, 4), (1, ()))

    def test_runs_of_two_and_three_steps_are_single_steps(self):
        for configuration in small_configurations():
            for first in possible(self.machine, configuration):
                once = take(self.machine, configuration, first)
                for second in possible(self.machine, once):
                    twice = take(self.machine, once, second)
                    self.check_follow(configuration, (first, second), twice)
                    for third in possible(self.machine, twice):
                        reached = take(self.machine, twice, third)
                        self.check_follow(configuration, (first, second, third), reached)

    def test_the_first_number_that_is_not_possible(self):
        self.check_stops(0, (0, (0, 1)), (1,))
        self.check_stops(0, (0, (0, 1)), (4, 0, 0))
        self.check_stops(1, (0, (0, 1)), (0, 0))
        self.check_stops(1, (0, (0, 1)), (0, 3, 3, 9))
        self.check_stops(2, (0, (0, 2)), (3, 0, 1))
        self.check_stops(3, (0, (0, 0, 0)), (0, 4, 4, 4))

    def test_the_place_is_not_the_number_of_the_step(self):
        self.check_stops(1, (0, (0, 0)), (5, 5))
        self.check_stops(2, (0, (0, 0, 0)), (5, 4, 1))

    def test_numbers_that_no_step_has(self):
        for index in (-1, -2, -6, -7, 6, 7, BIG, -BIG):
            with self.subTest(index=index):
                self.check_stops(0, (0, (0, 1)), (index,))
                self.check_stops(0, (0, ()), (index,))
                self.check_stops(1, (0, (0, 1)), (3, index))
                self.check_stops(2, (0, (0, 1)), (3, 3, index, 3))
                self.check_stops(1, (0, (0,)), (0, index))

    def test_a_number_below_0_does_not_count_from_the_end(self):
        # Step 5, the last one, is possible here, and so is the run (0, 4).
        self.check_stops(0, (0, (0, 0)), (-1,))
        self.check_stops(1, (0, (0, 0)), (0, -2))

    def test_the_empty_pile(self):
        for index in range(6):
            self.check_stops(0, (0, ()), (index,))
            self.check_stops(0, (1, ()), (index, index))
        self.check_stops(1, (0, (0,)), (0, 4))

    def test_thousands_of_steps_up_and_down(self):
        machine = tall_machine()
        up = [0] * 5_000
        self.check_follow((0, (0, 1)), up, (0, (0,) + (1,) * 5_001), machine)
        self.check_follow((0, (0, 1)), up + [1], (0, (1,) * 5_001), machine)
        self.check_follow((0, (0,)), up + [1] + [2, 1] * 2_499, (0, (1,) * 2_501), machine)
        self.check_follow((0, (0,)), up[:3_000] + [1] + [2, 1] * 3_000, (0, ()), machine)
        self.check_follow((0, (0,)), up + [3], (1, (0,) + (1,) * 5_000), machine)

    def test_thousands_of_steps_on_a_pile_of_300_letters(self):
        machine = tall_machine()
        pile = (0,) + tuple(index % 2 for index in range(299))
        self.check_follow((0, pile), [0] * 9_999 + [1], (0, (1,) * 9_999 + pile[1:]), machine)

    def test_thousands_of_steps_and_one_that_is_not_possible(self):
        machine = tall_machine()
        self.check_stops(9_999, (0, (0,)), [0] * 9_999 + [2], machine)
        self.check_stops(5_000, (0, (0,)), [0] * 5_000 + [-1] * 4_000, machine)
        self.check_stops(9_001, (0, (0,)), [0] * 3_000 + [1] + [2, 1] * 3_000 + [1, 1], machine)

    def test_the_configuration_is_not_changed_and_the_result_is_the_same_again(self):
        configuration = (0, (0, 2))
        for _ in range(3):
            self.check_follow(configuration, (3, 3, 0), (1, (1, 1, 2)))
        self.assertEqual(configuration, (0, (0, 2)))

    def test_parameters_go_by_name(self):
        self.assertEqual(follow(run=[0], configuration=(0, (0,)), machine=self.machine), (1, ()))


class WeightTest(RunsTest):
    def check_weight(self, run, weight):
        for kind in (list, tuple):
            passed = kind(run)
            self.assertEqual(weight_of(self.machine, passed), weight)
            self.assertEqual(passed, kind(run))

    def test_the_empty_run_weighs_nothing(self):
        self.check_weight((), 0)
        self.assertEqual(weight_of(Machine(1, 1, []), ()), 0)

    def test_one_step(self):
        for index, weight in enumerate((5, 0, 7, 2, 10 ** 9, 5)):
            self.check_weight((index,), weight)

    def test_the_sum_counts_repeats(self):
        self.check_weight((3, 0), 7)
        self.check_weight((0, 0, 0), 15)
        self.check_weight((1, 1), 0)
        self.check_weight((3, 3, 0, 4), 10 ** 9 + 9)

    def test_steps_that_are_not_possible_one_after_another(self):
        self.check_weight((2, 2), 14)
        self.check_weight((4, 1, 0, 2), 10 ** 9 + 12)

    def test_all_runs_of_three_steps(self):
        weights = (5, 0, 7, 2, 10 ** 9, 5)
        for run in itertools.product(range(6), repeat=3):
            self.check_weight(run, weights[run[0]] + weights[run[1]] + weights[run[2]])

    def test_thousands_of_steps_and_large_weights(self):
        self.check_weight([4] * 10_000, 10 ** 13)
        self.check_weight([4, 0] * 5_000, 5_000 * (10 ** 9 + 5))
        machine = Machine(1, 1, [Step(0, 0, 0, (), BIG)])
        self.assertEqual(weight_of(machine, [0] * 3), 3 * BIG)

    def test_parameters_go_by_name(self):
        self.assertEqual(weight_of(run=(0, 2), machine=self.machine), 12)


if __name__ == "__main__":
    unittest.main()
