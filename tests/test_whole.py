"""The whole way: from texts to programs, machines, answers, papers and the judge."""

import random
import unittest

from pilereach.ahead import ahead, least
from pilereach.behind import behind, came
from pilereach.compiled import configuration_of, machine_of, situation_of
from pilereach.endless import endless
from pilereach.judge import takes_came, takes_least
from pilereach.judgeever import takes_endless
from pilereach.meaning import after, begin
from pilereach.net import single
from pilereach.order import first
from pilereach.printer import write_program
from pilereach.product import both
from pilereach.questions import can_pass, passes_ever, place_marks, place_net, story
from pilereach.reader import read_program
from tests.programs import random_program, situations_from
from tests.texts import random_text

# Two take turns; one of them may wait for the other one for ever.
TURNS = """
var first; var second; var turn;
proc main {
    repeat { either { call one; } or { call two; } }
}
proc one {
    var tried;
    first = true; turn = true;
    while (second and turn == true and not tried) { tried = true; }
    if (second == false or not turn) { pass 1; first = false; }
}
proc two {
    if (not first) { second = true; pass 2; if (second) { call deeper; } second = false; }
}
proc deeper {
    var on; on = any;
    if (on) { call deeper; pass 3; } else { pass 4; }
    if (first and second) { pass 13; }
}
"""


class WholeCase(unittest.TestCase):
    def check(self, program, text):
        """Check that the program of the text has the answers of the program, and their papers."""
        again = read_program(text)
        self.assertEqual(again, program)
        machine = machine_of(program)
        self.assertEqual(machine_of(again), machine)
        self.assertEqual(begin(again), begin(program))
        configuration = configuration_of(program, begin(program))
        self.assertEqual(configuration_of(again, begin(again)), configuration)
        for place in range(5):
            self.check_pass(program, again, machine, configuration, place)
            self.check_ever(program, again, machine, configuration, place)

    def check_pass(self, program, again, machine, configuration, place):
        net = place_net(program, place)
        self.assertEqual(place_net(again, place), net)
        weight, paper = can_pass(program, place)
        self.assertEqual(can_pass(again, place), (weight, paper))
        self.assertEqual(least(machine, net, configuration), (weight, paper))
        self.assertIs(takes_least(machine, net, configuration, weight, paper), True)
        self.assertIs(ahead(machine, net).accepts(configuration), weight is not None)
        told = story(program, paper, 2_000)
        self.assertEqual(story(again, paper, 2_000), told)
        # The other way round: some configuration at the place is behind the beginning.
        begins = single(machine.states, machine.letters, configuration)
        met = first(both(behind(machine, begins), net))
        self.assertIs(met is None, weight is None)
        if met is not None:
            verdict, paper = came(machine, begins, met)
            self.assertIs(verdict, True)
            self.assertIs(takes_came(machine, begins, met, True, paper), True)
        if told is not None:
            self.check_told(program, machine, begins, told)

    def check_told(self, program, machine, begins, told):
        """Check that each situation of a story is one that runs lead to."""
        for situation, follower in zip(told, told[1:]):
            self.assertIn(follower, after(program, situation))
        goal = configuration_of(program, told[-1])
        self.assertEqual(situation_of(program, goal), told[-1])
        verdict, paper = came(machine, begins, goal)
        self.assertIs(verdict, True)
        self.assertIs(takes_came(machine, begins, goal, True, paper), True)
        self.assertIs(takes_came(machine, begins, goal, False, paper), False)

    def check_ever(self, program, again, machine, configuration, place):
        marks = place_marks(program, place)
        self.assertEqual(place_marks(again, place), marks)
        verdict, paper = passes_ever(program, place)
        self.assertEqual(passes_ever(again, place), (verdict, paper))
        self.assertEqual(endless(machine, marks, configuration), (verdict, paper))
        self.assertIs(takes_endless(machine, marks, configuration, verdict, paper), True)
        self.assertIs(takes_endless(machine, marks, configuration, not verdict, paper), False)
        if verdict:
            self.assertIsNotNone(can_pass(program, place)[0])


class WholeTest(WholeCase):
    def test_a_program_of_some_size(self):
        program = read_program(TURNS)
        self.assertEqual([can_pass(program, place)[0] is None for place in (1, 2, 3, 4, 5, 13)], [False] * 4 + [True] * 2)
        self.assertEqual([passes_ever(program, place)[0] for place in (1, 2, 3, 4, 13)], [True] * 4 + [False])
        self.check(program, write_program(program))
        places = set()
        for situation in situations_from(program, begin, after, 14):
            self.assertEqual(situation_of(program, configuration_of(program, situation)), situation)
            places.add(situation[1][0][0] if situation[1] else None)
        self.assertGreater(len(places), 15)

    def test_programs_by_chance(self):
        chance = random.Random(95)
        for _ in range(40):
            program = random_program(chance)
            self.check(program, write_program(program))
            self.check(program, random_text(chance, program))

    def test_what_runs_do_not_lead_to(self):
        chance = random.Random(96)
        verdicts = []
        for _ in range(30):
            program = random_program(chance)
            machine = machine_of(program)
            begins = single(machine.states, machine.letters, configuration_of(program, begin(program)))
            near = situations_from(program, begin, after, 8)
            for _ in range(6):
                pile = tuple(chance.randrange(machine.letters) for _ in range(chance.randint(0, 2)))
                goal = (chance.randrange(machine.states), pile)
                verdict, paper = came(machine, begins, goal)
                verdicts.append(verdict)
                self.assertIs(takes_came(machine, begins, goal, verdict, paper), True)
                self.assertIs(takes_came(machine, begins, goal, not verdict, paper), False)
                if situation_of(program, goal) in near:
                    self.assertIs(verdict, True)
        self.assertIn(True, verdicts)
        self.assertIn(False, verdicts)


if __name__ == "__main__":
    unittest.main()
