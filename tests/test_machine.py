"""Steps and machines: fields, ==, and what makes a machine wrong."""

import unittest
from unittest import mock

from pilereach.errors import InvalidMachine
from pilereach.machine import Machine, Step

BIG = 10 ** 60

# For a machine with 2 states and 3 letters: a step, and what makes it wrong.
GOOD = {"state": 1, "letter": 2, "goal": 0, "laid": (2, 1), "weight": 4}
WRONG = {
    "a state below 0": {"state": -1},
    "the number of states as a state": {"state": 2},
    "a state far beyond": {"state": BIG},
    "a letter below 0": {"letter": -1},
    "the number of letters as a letter": {"letter": 3},
    "a letter far beyond": {"letter": BIG},
    "a goal below 0": {"goal": -1},
    "the number of states as a goal": {"goal": 2},
    "a goal far beyond": {"goal": BIG},
    "only one laid letter, below 0": {"laid": (-1,)},
    "only one laid letter, beyond": {"laid": (3,)},
    "a first laid letter below 0": {"laid": (-1, 0)},
    "a first laid letter beyond": {"laid": (3, 0)},
    "a second laid letter below 0": {"laid": (0, -1)},
    "a second laid letter beyond": {"laid": (0, 3)},
    "both laid letters wrong": {"laid": (3, -1)},
    "three laid letters": {"laid": (0, 1, 2)},
    "three equal laid letters": {"laid": (0, 0, 0)},
    "many laid letters": {"laid": (0,) * 50},
    "weight -1": {"weight": -1},
    "a weight far below 0": {"weight": -BIG},
}


def right_steps():
    return [Step(0, 0, 0), Step(1, 2, 1, (0,), 0), Step(0, 1, 1, (2, 2), 7)]


class Alike:
    """An object of another kind with the fields of a step and of a machine."""

    def __init__(self, other):
        vars(self).update(vars(other))


class StepTest(unittest.TestCase):
    def fields(self, step):
        return (step.state, step.letter, step.goal, step.laid, step.weight)

    def test_fields_are_as_passed(self):
        self.assertEqual(self.fields(Step(1, 2, 3, (4, 5), 6)), (1, 2, 3, (4, 5), 6))
        self.assertEqual(self.fields(Step(0, 0, 0, (7,), BIG)), (0, 0, 0, (7,), BIG))
        self.assertEqual(self.fields(Step(3, 1, 2, (), 0)), (3, 1, 2, (), 0))

    def test_laid_and_weight_have_default_values(self):
        self.assertEqual(self.fields(Step(1, 2, 3)), (1, 2, 3, (), 1))
        self.assertEqual(self.fields(Step(1, 2, 3, [5])), (1, 2, 3, (5,), 1))
        self.assertEqual(self.fields(Step(1, 2, 3, weight=9)), (1, 2, 3, (), 9))

    def test_parameters_go_by_name(self):
        step = Step(weight=6, laid=[4, 5], goal=3, letter=2, state=1)
        self.assertEqual(self.fields(step), (1, 2, 3, (4, 5), 6))

    def test_laid_is_a_tuple_in_place_of_a_list(self):
        for laid in ([], [4], [4, 5], (), (4,), (4, 5)):
            with self.subTest(laid=laid):
                step = Step(1, 2, 3, laid)
                self.assertIs(type(step.laid), tuple)
                self.assertEqual(step.laid, tuple(laid))

    def test_a_list_that_changes_later_does_not_change_the_step(self):
        laid = [4, 5]
        step = Step(1, 2, 3, laid)
        laid[0] = 9
        laid.append(6)
        self.assertEqual(step.laid, (4, 5))
        self.assertEqual(laid, [9, 5, 6])

    def test_a_list_that_is_passed_is_not_changed(self):
        laid = [4, 5]
        Step(1, 2, 3, laid)
        self.assertEqual(laid, [4, 5])

    def test_a_step_alone_is_not_looked_at(self):
        self.assertEqual(self.fields(Step(-1, -2, -3, (-4, 5, 6), -7)), (-1, -2, -3, (-4, 5, 6), -7))


class EqualStepsTest(unittest.TestCase):
    def check_equal(self, a, b):
        self.assertIs(a == b, True)
        self.assertIs(b == a, True)
        self.assertIs(a != b, False)

    def check_unequal(self, a, b):
        self.assertIs(a == b, False)
        self.assertIs(b == a, False)
        self.assertIs(a != b, True)

    def test_steps_with_equal_parts_are_equal(self):
        self.check_equal(Step(1, 2, 3, (4, 5), 6), Step(1, 2, 3, (4, 5), 6))
        self.check_equal(Step(1, 2, 3, (4, 5), 6), Step(1, 2, 3, [4, 5], 6))
        self.check_equal(Step(1, 2, 3), Step(1, 2, 3, [], 1))
        self.check_equal(Step(BIG, BIG, BIG, [BIG], BIG), Step(10 ** 60, 10 ** 60, 10 ** 60, [10 ** 60], 10 ** 60))

    def test_one_part_that_differs_makes_steps_unequal(self):
        step = Step(1, 2, 3, (4, 5), 6)
        self.check_unequal(step, Step(7, 2, 3, (4, 5), 6))
        self.check_unequal(step, Step(1, 7, 3, (4, 5), 6))
        self.check_unequal(step, Step(1, 2, 7, (4, 5), 6))
        self.check_unequal(step, Step(1, 2, 3, (7, 5), 6))
        self.check_unequal(step, Step(1, 2, 3, (4, 7), 6))
        self.check_unequal(step, Step(1, 2, 3, (4, 5), 7))

    def test_the_order_and_the_number_of_laid_letters_count(self):
        step = Step(1, 2, 3, (4, 5), 6)
        for laid in ((5, 4), (4,), (5,), (), (4, 5, 5)):
            with self.subTest(laid=laid):
                self.check_unequal(step, Step(1, 2, 3, laid, 6))

    def test_objects_of_other_kinds_are_not_equal_to_a_step(self):
        step = Step(1, 2, 3, (4, 5), 6)
        machine = Machine(1, 1, [])
        for other in (None, 0, 1, "", "step", (1, 2, 3, (4, 5), 6), [], {}, Step, machine, Alike(step), object()):
            with self.subTest(other=repr(other)):
                self.check_unequal(step, other)
        self.assertIs(step == mock.ANY, False)


class MachineTest(unittest.TestCase):
    def test_fields_are_as_passed(self):
        machine = Machine(2, 3, right_steps())
        self.assertEqual((machine.states, machine.letters), (2, 3))
        self.assertEqual(machine.steps, tuple(right_steps()))

    def test_parameters_go_by_name(self):
        machine = Machine(steps=right_steps(), letters=3, states=2)
        self.assertEqual((machine.states, machine.letters), (2, 3))
        self.assertEqual(machine.steps, tuple(right_steps()))

    def test_steps_are_a_tuple_in_place_of_a_list(self):
        for steps in ([], (), right_steps(), tuple(right_steps())):
            with self.subTest(kind=type(steps).__name__, many=len(steps)):
                machine = Machine(2, 3, steps)
                self.assertIs(type(machine.steps), tuple)
                self.assertEqual(machine.steps, tuple(steps))

    def test_steps_keep_their_order_and_repeats(self):
        steps = [Step(1, 1, 1), Step(0, 0, 0), Step(1, 1, 1), Step(0, 1, 0)]
        self.assertEqual(list(Machine(2, 2, steps).steps), steps)

    def test_a_list_that_changes_later_does_not_change_the_machine(self):
        steps = right_steps()
        machine = Machine(2, 3, steps)
        steps[0] = Step(1, 1, 1)
        steps.append(Step(0, 0, 0))
        del steps[1]
        self.assertEqual(machine.steps, tuple(right_steps()))

    def test_laid_letters_that_change_later_do_not_change_the_machine(self):
        laid = [1, 2]
        machine = Machine(2, 3, [Step(0, 0, 0, laid)])
        laid[1] = 0
        self.assertEqual(machine.steps[0].laid, (1, 2))

    def test_a_list_that_is_passed_is_not_changed(self):
        steps = right_steps()
        Machine(2, 3, steps)
        self.assertEqual(steps, right_steps())


class EqualMachinesTest(unittest.TestCase):
    check_equal = EqualStepsTest.check_equal
    check_unequal = EqualStepsTest.check_unequal

    def test_machines_with_equal_parts_are_equal(self):
        self.check_equal(Machine(2, 3, right_steps()), Machine(2, 3, tuple(right_steps())))
        self.check_equal(Machine(1, 1, []), Machine(1, 1, ()))

    def test_one_part_that_differs_makes_machines_unequal(self):
        machine = Machine(2, 3, right_steps())
        self.check_unequal(machine, Machine(3, 3, right_steps()))
        self.check_unequal(machine, Machine(2, 4, right_steps()))
        self.check_unequal(machine, Machine(2, 3, []))
        self.check_unequal(machine, Machine(2, 3, right_steps()[:2]))
        self.check_unequal(machine, Machine(2, 3, right_steps() + [Step(0, 0, 0)]))

    def test_one_step_that_differs_makes_machines_unequal(self):
        machine = Machine(2, 3, right_steps() + [Step(**GOOD)])
        self.check_equal(machine, Machine(2, 3, right_steps() + [Step(**GOOD)]))
        for change in ({"state": 0}, {"letter": 1}, {"goal": 1}, {"laid": (1, 2)}, {"weight": 5}):
            with self.subTest(change=change):
                other = Step(**{**GOOD, **change})
                self.check_unequal(machine, Machine(2, 3, right_steps() + [other]))

    def test_another_order_of_the_steps_makes_machines_unequal(self):
        self.check_unequal(Machine(2, 3, right_steps()), Machine(2, 3, right_steps()[::-1]))

    def test_repeated_steps_count(self):
        steps = right_steps()
        self.check_unequal(Machine(2, 3, steps), Machine(2, 3, steps + steps))

    def test_objects_of_other_kinds_are_not_equal_to_a_machine(self):
        machine = Machine(2, 3, right_steps())
        others = (None, 0, 2, "", (2, 3, tuple(right_steps())), [], {}, Machine, right_steps()[0], Alike(machine))
        for other in others:
            with self.subTest(other=repr(other)):
                self.check_unequal(machine, other)
        self.assertIs(machine == mock.ANY, False)


class InvalidMachineTest(unittest.TestCase):
    def check_wrong(self, states, letters, steps):
        for kind in (list, tuple):
            with self.assertRaises(InvalidMachine) as caught:
                Machine(states, letters, kind(steps))
            self.assertIs(type(caught.exception), InvalidMachine)

    def test_states_and_letters_below_1_are_wrong(self):
        for many in (0, -1, -BIG):
            with self.subTest(many=many):
                self.check_wrong(many, 3, [])
                self.check_wrong(2, many, [])
                self.check_wrong(many, many, [])
                self.check_wrong(many, 3, right_steps())
                self.check_wrong(2, many, right_steps())

    def test_the_good_step_is_right(self):
        Machine(2, 3, [Step(**GOOD)])
        Machine(2, 3, right_steps() + [Step(**GOOD)] + right_steps())

    def test_a_wrong_step_alone(self):
        for name, change in WRONG.items():
            with self.subTest(name):
                self.check_wrong(2, 3, [Step(**{**GOOD, **change})])

    def test_a_wrong_step_beside_right_ones(self):
        for name, change in WRONG.items():
            wrong = Step(**{**GOOD, **change})
            for place in range(4):
                with self.subTest(name, place=place):
                    steps = right_steps()
                    steps.insert(place, wrong)
                    self.check_wrong(2, 3, steps)

    def test_a_wrong_step_behind_many_right_ones(self):
        for name, change in WRONG.items():
            with self.subTest(name):
                self.check_wrong(2, 3, right_steps() * 600 + [Step(**{**GOOD, **change})])

    def test_two_wrong_steps(self):
        for name, change in WRONG.items():
            with self.subTest(name):
                wrong = Step(**{**GOOD, **change})
                self.check_wrong(2, 3, [wrong, Step(**GOOD), wrong])

    def test_states_are_not_taken_for_letters(self):
        # With more states than letters, where GOOD has them the other way round.
        Machine(3, 2, [Step(2, 1, 2, (1, 1))])
        self.check_wrong(3, 2, [Step(0, 2, 0)])
        self.check_wrong(3, 2, [Step(0, 0, 0, (2,))])
        self.check_wrong(3, 2, [Step(0, 0, 0, (2, 0))])
        self.check_wrong(3, 2, [Step(0, 0, 0, (0, 2))])
        self.check_wrong(3, 2, [Step(3, 0, 0)])
        self.check_wrong(3, 2, [Step(0, 0, 3)])

    def test_edges_that_are_right(self):
        self.assertEqual(Machine(1, 1, []).steps, ())
        self.assertEqual(Machine(1, 1, ()).steps, ())
        for laid in ((), (0,), (0, 0)):
            with self.subTest(laid=laid):
                self.assertEqual(Machine(1, 1, [Step(0, 0, 0, laid, 0)]).steps[0].laid, laid)
        for weight in (0, 1, 10 ** 9, BIG):
            with self.subTest(weight=weight):
                self.assertEqual(Machine(1, 1, [Step(0, 0, 0, (), weight)]).steps[0].weight, weight)

    def test_the_last_states_and_letters_are_right(self):
        machine = Machine(64, 128, [Step(63, 127, 63, (127, 127), 10 ** 9)] * 2_000)
        self.assertEqual(len(machine.steps), 2_000)
        self.check_wrong(64, 128, [Step(64, 127, 63)])
        self.check_wrong(64, 128, [Step(63, 128, 63)])

    def test_sizes_beyond_the_bounds_raise_no_error(self):
        machine = Machine(70, 140, [Step(69, 139, 69, (139, 139))] * 2_100)
        self.assertEqual((machine.states, machine.letters, len(machine.steps)), (70, 140, 2_100))


if __name__ == "__main__":
    unittest.main()
