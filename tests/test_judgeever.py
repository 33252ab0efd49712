"""Which papers the judge takes on endless runs."""

import random
import unittest

from pilereach.endless import endless
from pilereach.judgeever import takes_endless
from pilereach.machine import Machine, Step
from tests import checks, examples, papers
from tests.papers import exchanged, without
from tests.programs import copy_of
from tests.samples import copy_of_machine, random_machine

BIG = papers.BIG


class JudgeCase(unittest.TestCase):
    """Asks the judge, and checks that nothing that is passed is changed."""

    def takes(self, example, verdict, paper, marked=None):
        marked = example.marked if marked is None else marked
        return self.ask(example.machine, marked, example.configuration, verdict, paper)

    def ask(self, machine, marked, configuration, verdict, paper):
        copies = (copy_of_machine(machine), list(marked), copy_of(configuration), copy_of(paper))
        taken = takes_endless(machine, marked, configuration, verdict, paper)
        self.assertIs(type(taken), bool)
        self.assertEqual((machine, list(marked), configuration, paper), copies)
        return taken

    def check(self, expected, example, *parts):
        """Check a paper of the example's form with these parts, with both verdicts."""
        paper = (example.paper[0],) + parts
        self.assertIs(self.takes(example, example.answer, paper), expected, paper)
        self.assertIs(self.takes(example, not example.answer, paper), False, paper)
        answer = (example.answer, paper)
        right = checks.is_endless(example.machine, example.marked, example.configuration, answer)
        self.assertIs(right, expected, paper)

    def check_changes(self, example, least_refused):
        """Check each change of each part, against the checks of the tests."""
        refused = 0
        for paper in papers.changes(example.paper):
            answer = (example.answer, paper)
            right = checks.is_endless(example.machine, example.marked, example.configuration, answer)
            self.assertIs(self.takes(example, example.answer, paper), right, paper)
            refused += not right
        self.assertGreater(refused, least_refused)


class EverPaperTest(JudgeCase):
    rows, descent, way, ring = examples.Ever.paper[1:]

    def rows_are(self, expected, *rows):
        self.check(expected, examples.Ever, rows, self.descent, self.way, self.ring)

    def descent_is(self, expected, *descent):
        self.check(expected, examples.Ever, self.rows, descent, self.way, self.ring)

    def way_is(self, expected, *way):
        self.check(expected, examples.Ever, self.rows, self.descent, way, self.ring)

    def ring_is(self, expected, *ring):
        self.check(expected, examples.Ever, self.rows, self.descent, self.way, ring)

    def test_the_paper_with_each_verdict_and_marks(self):
        for verdict in (True, False):
            self.assertIs(self.takes(examples.Ever, verdict, examples.Ever.paper), verdict)
        for marked, expected in (
            ((), False),
            ([], False),
            ([0], True),
            ([1], True),
            ([2], True),
            ([3, 4, 5, 6], False),
            ([6, 1, 1, 3, 1], True),
        ):
            self.assertIs(self.takes(examples.Ever, True, examples.Ever.paper, marked), expected)
            self.assertIs(self.takes(examples.Ever, False, examples.Ever.paper, marked), False)

    def test_other_configurations(self):
        for configuration in checks.configurations(2, 4, 3):
            right = configuration[0] == 0 and configuration[1][:2] == (3, 0)
            verdict = self.ask(examples.Ever.machine, (1,), configuration, True, examples.Ever.paper)
            self.assertIs(verdict, right, configuration)

    def test_right_papers_of_others(self):
        one, two, three = self.rows
        self.rows_are(True, one, two, three, one, three, (1, ()))
        doubled = (one, one, two, (4, (1,)), (5, (1, 3)))
        self.check(True, examples.Ever, doubled, (4,), self.way, ((0, 1), (2, None)))
        first, second = self.ring
        self.ring_is(True, first, second, first, second)
        self.way_is(True, *self.way, first, second, first, second)
        self.check(True, examples.Ever, self.rows, self.descent, self.way + (first,), (second, first))

    def test_wrong_rows(self):
        one, two, three = self.rows
        # Some of them are the right steps, counted from the end.
        for step in (0, 2, 3, 6, 7, -1, -2, -3, -6, BIG, -BIG):
            self.rows_are(False, (step, ()), two, three)
            self.rows_are(False, one, (step, (0,)), three)
            self.rows_are(False, one, two, (step, (0, 1)))
        # A row that nothing needs must be right, too.
        for step in (7, -1, -6, BIG):
            self.rows_are(False, one, two, three, (step, ()))
        self.rows_are(False, two, one, three)
        self.rows_are(False, three, two, one)
        self.rows_are(False)
        self.rows_are(False, one, two)

    def test_wrong_parts_of_rows(self):
        one, two, three = self.rows
        self.rows_are(False, (1, (0,)), two, three)
        self.rows_are(False, one, (4, ()), three)
        self.rows_are(False, one, (4, (0, 0)), three)
        for parts in ((), (0,), (1,), (0, 1, 1), (0, 1, 0)):
            self.rows_are(False, one, two, (5, parts))
        for index in (1, 2, 3, -1, -2, -3, BIG, -BIG):
            self.rows_are(False, one, (4, (index,)), three)
            self.rows_are(False, one, two, (5, (index, 1)))
        for index in (0, 2, 3, -1, -2, -3, BIG, -BIG):
            self.rows_are(False, one, two, (5, (0, index)))

    def test_its_own_and_later_rows_as_parts(self):
        # Each row takes off the letter from the state; only the order is wrong.
        machine = Machine(1, 1, [Step(0, 0, 0), Step(0, 0, 0, (0,)), Step(0, 0, 0, (0, 0))])
        for parts in ((0,), (1,), (2,), (-1,), (-2,), (-3,), (3,)):
            paper = ("ever", ((0, ()), (1, parts), (0, ())), (), (), ((1, None),))
            self.assertIs(self.ask(machine, [1], (0, (0,)), True, paper), parts == (0,))
        for parts in ((0, 0), (0, 1), (1, 0), (0, 2), (2, 0), (-1, 0), (0, -1), (0, -3), (-3, 0)):
            paper = ("ever", ((0, ()), (2, parts), (0, ())), (), (), ((1, None),))
            self.assertIs(self.ask(machine, [1], (0, (0,)), True, paper), parts == (0, 0))

    def test_wrong_descents(self):
        for index in (0, 1, 3, -1, -2, -3, BIG, -BIG):
            self.descent_is(False, index)
        self.descent_is(False)
        self.descent_is(False, 2, 2)
        self.descent_is(False, 2, 0)
        # As long as the pile, and longer; all letters would be taken off.
        machine = Machine(1, 1, [Step(0, 0, 0), Step(0, 0, 0, (0,))])
        for height in range(4):
            for many in range(6):
                paper = ("ever", ((0, ()),), (0,) * many, (), ((1, None),))
                self.assertIs(self.ask(machine, [1], (0, (0,) * height), True, paper), many < height)

    def test_a_descent_goes_on_where_the_row_before_ended(self):
        machine = Machine(3, 2, [Step(0, 0, 1), Step(1, 0, 2), Step(0, 0, 2), Step(2, 1, 2, (1,))])
        rows = ((0, ()), (1, ()), (2, ()))
        ring = ((3, None),)
        for pile in ((0, 0, 1), (0, 1), (0, 0, 0, 1), (1,), (0, 1, 1), (1, 0, 1)):
            for descent in ((), (0,), (1,), (2,), (0, 1), (1, 0), (2, 1), (0, 0), (0, 2), (0, 1, 1)):
                right = (pile, descent) in (((0, 0, 1), (0, 1)), ((0, 1), (2,)), ((0, 1, 1), (2,)))
                verdict = self.ask(machine, [3], (0, pile), True, ("ever", rows, descent, (), ring))
                self.assertIs(verdict, right, (pile, descent))

    def test_wrong_ways(self):
        first, second = self.ring
        self.way_is(False)
        self.way_is(False, *self.way, *self.way)
        self.way_is(False, *self.way, first)
        self.way_is(False, first)
        self.way_is(False, *self.way, second)
        for step in (0, 1, 2, 4, 5, 7, -1, -4, BIG, -BIG):
            self.way_is(False, (step, None))
        for part in (0, 1, 2, 3, -1, -3, BIG, -BIG):
            self.way_is(False, (3, part))

    def test_wrong_rings(self):
        first, second = self.ring
        self.ring_is(False)
        self.ring_is(False, first)
        self.ring_is(False, second)
        self.ring_is(False, second, first)
        self.ring_is(False, first, second, first)
        self.ring_is(False, (0, None), second)
        for step in (1, 2, 3, 4, 5, 7, -7, -6, BIG, -BIG):
            self.ring_is(False, (step, 0), second)
        for part in (1, 2, 3, -1, -2, -3, BIG, -BIG):
            self.ring_is(False, (0, part), second)
        for part in (0, 1, 2, -1, BIG, -BIG):
            self.ring_is(False, first, (2, part))

    def test_a_ring_needs_a_mark_of_its_own(self):
        machine = Machine(1, 3, [Step(0, 0, 0, (1,)), Step(0, 1, 0, (2,)), Step(0, 2, 0, (1,)), Step(0, 2, 0)])
        way, ring = ((0, None),), ((1, None), (2, None))
        for marked, expected in (([0], False), ([3], False), ([1], True), ([2], True), ([0, 3], False), ([0, 1], True)):
            paper = ("ever", ((3, ()),), (), way, ring)
            self.assertIs(self.ask(machine, marked, (0, (0,)), True, paper), expected)
        # A mark of a row of the descent is none of the ring, either.
        paper = ("ever", ((3, ()),), (0,), way, ring)
        self.assertIs(self.ask(machine, [3], (0, (2, 0)), True, paper), False)
        self.assertIs(self.ask(machine, [1], (0, (2, 0)), True, paper), True)

    def test_marks_of_rows(self):
        # 1 is taken off by way of one more letter, or of two more.
        steps = [Step(0, 0, 0, (1, 0)), Step(0, 1, 0, (2,)), Step(0, 1, 0, (2, 3)), Step(0, 2, 0), Step(0, 3, 0)]
        machine = Machine(1, 4, steps)
        rows = ((3, ()), (4, ()), (1, (0,)), (2, (0, 1)))
        for part, marks in ((2, (0, 1, 3)), (3, (0, 2, 3, 4))):
            for mark in range(5):
                paper = ("ever", rows, (), (), ((0, part),))
                self.assertIs(self.ask(machine, [mark], (0, (0,)), True, paper), mark in marks)

    def test_what_is_a_move(self):
        steps = [Step(0, 0, 1), Step(0, 0, 1, (0,)), Step(0, 0, 1, (0, 0)), Step(1, 0, 0)]
        machine = Machine(2, 1, steps)
        rows = ((0, ()), (3, ()))
        for move, head in (
            ((0, None), None),
            ((0, 0), None),
            ((0, 1), None),
            ((1, None), (1, 0)),
            ((1, 0), None),
            ((1, 1), None),
            ((2, None), (1, 0)),
            ((2, 0), None),
            ((2, 1), (0, 0)),
            ((2, 2), None),
            ((2, -1), None),
            ((-2, 1), None),
            ((-3, None), None),
            ((4, None), None),
            ((BIG, None), None),
            ((2, BIG), None),
        ):
            paper = ("ever", rows, (), (), (move,))
            self.assertIs(self.ask(machine, [0, 1, 2, 3], (0, (0,)), True, paper), head == (0, 0), move)
            # Step 4 leads back from the head, if the move is one.
            longer = Machine(2, 1, steps + [Step(1, 0, 0, (0,))])
            paper = ("ever", rows, (), (), (move, (4, None)))
            self.assertIs(self.ask(longer, [4], (0, (0,)), True, paper), head == (1, 0), move)

    def test_each_change_of_each_part(self):
        self.check_changes(examples.Ever, 150)


class NotPaperTest(JudgeCase):
    table, ranks = examples.Not.paper[1:]

    def table_is(self, expected, *table):
        self.check(expected, examples.Not, table, self.ranks)

    def ranks_are(self, expected, *ranks):
        self.check(expected, examples.Not, self.table, ranks)

    def test_the_paper_with_each_verdict_and_marks(self):
        for verdict in (True, False):
            self.assertIs(self.takes(examples.Not, verdict, examples.Not.paper), not verdict)
        for marked in ((5, 3), [3, 5, 3, 3]):
            self.assertIs(self.takes(examples.Not, False, examples.Not.paper, marked), True)
        for marked in ((), (3,), (5,), (0, 3, 5), (1, 3, 5), (2, 3, 5), (3, 4, 5)):
            paper = examples.Not.paper
            right = checks.is_endless(examples.Not.machine, marked, examples.Not.configuration, (False, paper))
            self.assertIs(self.takes(examples.Not, False, paper, marked), right)
        self.assertIs(self.takes(examples.Not, False, examples.Not.paper, (0, 3, 5)), False)

    def test_right_papers_of_others(self):
        self.table_is(True, *self.table[::-1])
        self.table_is(True, *(self.table * 3))
        # Entries that lead to no new head, and some that lead nowhere.
        self.table_is(True, *self.table, (0, 2, 0, True), (1, 0, 1, False))
        for factor in (1, 2, 7, BIG):
            for more in (0, 1, BIG):
                self.ranks_are(True, *[(head, number * factor + more) for head, number in self.ranks])
        # Heads that are not needed.
        self.ranks_are(True, *sorted(self.ranks + (((0, 2), 0),)))
        self.ranks_are(True, *sorted(self.ranks + (((0, 2), BIG),)))

    def test_wrong_tables(self):
        self.table_is(False)
        for index, (state, letter, goal, flag) in enumerate(self.table):
            self.table_is(False, *without(self.table, index))
            for changed in ((1 - state, letter, goal, flag), (state, letter, 1 - goal, flag), (state, letter, goal, not flag)):
                self.table_is(False, *exchanged(self.table, index, changed))

    def test_entries_that_are_out_of_range(self):
        for flag in (True, False):
            for entry in ((2, 0, 0), (0, 4, 0), (0, 0, 2), (-1, 0, 0), (0, -1, 0), (0, 0, -1)):
                self.table_is(False, *self.table, entry + (flag,))
                self.table_is(False, entry + (flag,), *self.table)
            for size in (BIG, -BIG):
                for entry in ((size, 0, 0), (0, size, 0), (0, 0, size), (size, size, size)):
                    self.table_is(False, *self.table, entry + (flag,))

    def test_closed_tables_by_the_letters_that_steps_lay(self):
        first, second = (1, 1, 0), (0, 2, 1)
        for laid, goal in (((), 1), ((1,), 0), ((1, 2), 1)):
            machine = Machine(2, 3, [Step(0, 0, 1, laid)])
            for marked in ((), (0,)):
                for flags in ((False, False), (False, True), (True, False), (True, True)):
                    table = (first + flags[:1], second + flags[1:])
                    mark = bool(marked) or any(flags[:len(laid)])
                    ranks = (((1, 2), 5),)
                    for entry in ((0, 0, goal, mark), (0, 0, goal, not mark), (0, 0, 1 - goal, mark), (1, 0, goal, mark)):
                        paper = ("not", table + (entry,), ranks)
                        verdict = self.ask(machine, marked, (1, (2,)), False, paper)
                        self.assertIs(verdict, entry == (0, 0, goal, mark), (laid, marked, flags, entry))
                    paper = ("not", table, ranks)
                    self.assertIs(self.ask(machine, marked, (1, (2,)), False, paper), False)

    def test_both_flags_of_an_entry(self):
        # One letter is taken off with a mark and without: so both entries follow.
        machine = Machine(1, 2, [Step(0, 0, 0, (1, 1)), Step(0, 1, 0), Step(0, 1, 0)])
        both = ((0, 0, 0, False), (0, 0, 0, True), (0, 1, 0, False), (0, 1, 0, True))
        ranks = (((0, 0), 1), ((0, 1), 0))
        self.assertIs(self.ask(machine, [2], (0, (0,)), False, ("not", both, ranks)), True)
        for index in range(4):
            self.assertIs(self.ask(machine, [2], (0, (0,)), False, ("not", without(both, index), ranks)), False)
        self.assertIs(self.ask(machine, [2], (0, (0,)), False, ("not", both, (((0, 0), 0), ((0, 1), 0)))), False)

    def test_wrong_ranks(self):
        self.ranks_are(False)
        self.ranks_are(False, *self.ranks[::-1])
        self.ranks_are(False, *self.ranks[1:], *self.ranks[:1])
        for index, (head, number) in enumerate(self.ranks):
            self.ranks_are(False, *without(self.ranks, index))
            self.ranks_are(False, *self.ranks[:index], (head, number), *self.ranks[index:])
            self.ranks_are(False, *self.ranks[:index], (head, number + 1), *self.ranks[index:])
            self.ranks_are(False, *exchanged(self.ranks, index, (head, -1)))
            self.ranks_are(False, *exchanged(self.ranks, index, (head, -BIG)))

    def test_ranks_that_rise_or_do_not_fall_at_a_mark(self):
        level = [(head, 4) for head, _ in self.ranks]
        self.ranks_are(False, *level)
        known = dict(self.ranks)
        for head, number in (
            ((1, 0), 0),
            ((0, 3), 0),
            ((1, 3), 0),
            ((0, 3), 2),
            ((0, 0), 1),
            ((1, 2), 1),
            ((0, 1), 1),
            ((1, 1), 1),
            ((1, 1), BIG),
        ):
            self.ranks_are(False, *sorted({**known, head: number}.items()))
        for head, number in (((1, 0), 2), ((1, 3), 2), ((1, 0), BIG), ((1, 3), BIG)):
            self.ranks_are(True, *sorted({**known, head: number}.items()))

    def test_ranks_of_heads_that_are_out_of_range(self):
        for head in ((-1, 0), (0, -1), (2, 0), (0, 4), (BIG, 0), (0, BIG), (-BIG, 0), (0, -BIG), (BIG, -BIG)):
            for number in (0, 1, BIG):
                self.ranks_are(False, *sorted(self.ranks + ((head, number),)))
        # The same within the range.
        self.ranks_are(True, *sorted(self.ranks + (((0, 2), 3),)))

    def test_edges_of_heads_without_a_rank_do_not_count(self):
        machine = Machine(2, 1, [Step(0, 0, 0, (0,))])
        for ranks, expected in (
            ((((1, 0), 0),), True),
            ((((0, 0), 0), ((1, 0), 0)), False),
            ((), False),
            ((((0, 0), 0),), False),
        ):
            self.assertIs(self.ask(machine, [0], (1, (0,)), False, ("not", (), ranks)), expected)

    def test_heads_of_the_pile_need_ranks(self):
        machine = Machine(2, 2, [Step(0, 0, 1), Step(0, 0, 0), Step(1, 1, 0)])
        table = ((0, 0, 0, False), (0, 0, 1, False), (1, 1, 0, False))
        heads = ((0, 0), (0, 1), (1, 0), (1, 1))
        for pile, needed in (
            ((), ()),
            ((0,), ((0, 0),)),
            ((1,), ((0, 1),)),
            ((0, 1), ((0, 0), (0, 1), (1, 1))),
            ((0, 0), ((0, 0), (1, 0))),
            ((1, 0, 0), ((0, 1),)),
            ((0, 1, 0), ((0, 0), (0, 1), (1, 1))),
            ((0, 1, 1), ((0, 0), (0, 1), (1, 1))),
        ):
            for many in range(16):
                chosen = [head for index, head in enumerate(heads) if many >> index & 1]
                paper = ("not", table, tuple((head, 0) for head in chosen))
                verdict = self.ask(machine, [], (0, pile), False, paper)
                self.assertIs(verdict, set(needed) <= set(chosen), (pile, chosen))

    def test_the_empty_pile(self):
        machine = Machine(2, 1, [Step(0, 0, 1)])
        self.assertIs(self.ask(machine, [0], (0, ()), False, ("not", ((0, 0, 1, True),), ())), True)
        self.assertIs(self.ask(machine, [0], (0, ()), False, ("not", (), ())), False)
        self.assertIs(self.ask(machine, [0], (0, ()), False, ("not", ((0, 0, 1, False),), ())), False)

    def test_each_change_of_each_part(self):
        self.check_changes(examples.Not, 200)


class AnyPaperTest(JudgeCase):
    def test_papers_of_another_question(self):
        for example in (examples.Ever, examples.Not):
            for other in (examples.Least, examples.Never, examples.Came, examples.Stays):
                for verdict in (True, False):
                    self.assertIs(self.takes(example, verdict, other.paper), False)

    def test_papers_that_the_program_gives(self):
        chance = random.Random(63)
        for _ in range(150):
            machine = random_machine(chance, 4, 4, 16)
            marked = [index for index in range(len(machine.steps)) if chance.random() < 0.3]
            for height in (0, 1, 2, 6):
                pile = tuple(chance.randrange(machine.letters) for _ in range(height))
                configuration = (chance.randrange(machine.states), pile)
                verdict, paper = endless(machine, marked, configuration)
                self.assertIs(self.ask(machine, marked, configuration, verdict, paper), True)
                self.assertIs(self.ask(machine, marked, configuration, not verdict, paper), False)

    def test_changed_papers_by_chance(self):
        chance = random.Random(64)
        many = {(form, right): 0 for form in ("ever", "not") for right in (True, False)}
        for _ in range(300):
            machine = random_machine(chance, 3, 3, 8)
            marked = [index for index in range(len(machine.steps)) if chance.random() < 0.4]
            pile = tuple(chance.randrange(machine.letters) for _ in range(chance.randint(1, 4)))
            configuration = (chance.randrange(machine.states), pile)
            verdict, paper = endless(machine, marked, configuration)
            for _ in range(20):
                changed = paper
                for _ in range(chance.randint(1, 3)):
                    changed = papers.changed_by_chance(chance, changed)
                right = checks.is_endless(machine, marked, configuration, (verdict, changed))
                self.assertIs(takes_endless(machine, marked, configuration, verdict, changed), right)
                many[(paper[0], right)] += 1
        self.assertTrue(all(count > 50 for count in many.values()), many)


class SizeTest(JudgeCase):
    """Papers of others at the bounds."""

    def test_tuples_with_3000_items(self):
        machine = Machine(1, 1, [Step(0, 0, 0), Step(0, 0, 0, (0, 0)), Step(0, 0, 0, (0,))])
        rows = ((0, ()),) + tuple((1, (index, index)) for index in range(2_999))
        way = ((1, 2_999), (2, None), (1, None)) * 1_000
        for marked, expected in (([], False), ([0], True), ([1], True), ([2] * 4_000, False)):
            paper = ("ever", rows, (2_998,) * 299, way, ((1, 17),) * 3_000)
            self.assertIs(self.ask(machine, marked, (0, (0,) * 300), True, paper), expected)
            paper = ("ever", rows, (2_998,) * 300, way, ((1, 17),) * 3_000)
            self.assertIs(self.ask(machine, marked, (0, (0,) * 300), True, paper), False)

    def test_a_table_and_ranks_with_3000_items(self):
        steps = [Step(state, letter, (state + 1) % 64) for state in range(64) for letter in range(31)]
        machine = Machine(64, 31, steps)
        table = tuple((step.state, step.letter, step.goal, True) for step in steps)
        ranks = tuple(((state, letter), BIG) for state in range(64) for letter in range(31))
        pile = tuple(index % 31 for index in range(300))
        marked = list(range(len(steps)))
        more = table[:3_000 - len(table)]
        self.assertIs(self.ask(machine, marked, (9, pile), False, ("not", table + more, ranks)), True)
        self.assertIs(self.ask(machine, marked, (9, pile), False, ("not", table[1:], ranks)), False)
        self.assertIs(self.ask(machine, marked, (9, pile), False, ("not", table, ranks[:9 * 31] + ranks[9 * 31 + 1:])), False)


if __name__ == "__main__":
    unittest.main()
