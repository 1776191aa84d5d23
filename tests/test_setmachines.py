"""[88]: machines for questions about all texts."""

import random

from stillends.machines import lets_machine
from stillends.setmachines import machine_of
from tests.chances import LOST_TASKS, NO_FINALS, NO_TEXTS, known_tasks, rich_grammar, rich_task
from tests.helpers import CUTS, DEEP, FREE, FREE2, LONE, NEST, ODD, TASK, Case
from tests.proofs import states_by_sets
from tests.test_trees import ODD_ONES, RING

LOW = (NEST, LONE, FREE2, "", "behind")
# For tokens that are three: what is no question.
NO_QUESTIONS = ODD + (
    "", "all", "careless", "longest", "needless", ("needless",), ("needless", ()), ("needless", (3,)), ("needless", (-1,)),
    ("needless", (1, 0)), ("needless", (0, 0)), ("needless", (True,)), ("needless", [0]), ["needless", (0,)],
    ("needless", 0), ("needless", (0,), 0), ("spelled",), ("spelled", (0,)), ("one", (0,)), (), 0, DEEP,
)


ONLY_A = (("s",), 0, ((0, ()), (0, ("a", 0))))
A_OR_B = (("s",), 0, ((0, ()), (0, ("a", 0)), (0, ("b", 0))))
# For "one" just 1,000 states, and just 1,001; for ("needless", (0,)) just 1,001.
FULL = (ONLY_A, ("a", "aa"), FREE2, "a" * 167, "healed")
OVER = (ONLY_A, ("a", "b", "ab"), FREE, "a" * 250, "healed")
OVER_SPARED = (A_OR_B, ("a", "b", "aa"), FREE, "a" * 332, "healed")


class MachineOfTest(Case):
    def test_by_definition(self):
        chance = random.Random(88)
        sizes = 0
        for _ in range(250):
            task = rich_task(chance, rich_grammar(chance), most=4)
            many = len(task[1])
            drop = tuple(sorted(chance.sample(range(many), chance.randint(1, many))))
            for question in ("spelled", "one", ("needless", drop)):
                found = machine_of(task, question)
                self.same(found, states_by_sets(task, question))
                self.same(lets_machine(found[0]), found[0][0])
                sizes += found[0][0] > 8
        self.assertGreater(sizes, 100)

    def test_known_tasks(self):
        for task in known_tasks()[::3] + list(LOST_TASKS):
            drops = [(0,), (1,), tuple(range(len(task[1])))]
            for question in ["spelled", "one"] + [("needless", drop) for drop in drops]:
                self.same(machine_of(task, question), states_by_sets(task, question))

    def test_example(self):
        arcs = ((0, "a", 1, 1), (0, "b", 2, 1), (1, "a", 1, 1), (1, "b", 0, 1), (2, "a", 2, 1), (2, "b", 2, 1))
        self.same(machine_of(LOW, "spelled"), ((3, arcs), (2,)))

    def test_letters_of_useless_rules_too(self):
        task = (ODD_ONES, LONE, FREE2, "", "behind")
        self.same(sorted({arc[1] for arc in machine_of(task, "spelled")[0][1]}), ["a", "b", "c", "d"])
        self.same(machine_of((NO_TEXTS,) + TASK[1:], "spelled"), ((1, ()), ()))

    def test_what_is_begun(self):
        # Beside begun no arc leads on; behind it all letters do.
        for mode in ("behind", "healed"):
            machine, barred = machine_of((NEST, CUTS, FREE, "a", mode), "spelled")
            self.same([arc[:2] for arc in machine[1] if arc[0] == 0], [(0, "a")])
            self.assertNotIn(0, barred)

    def test_no_finals(self):
        machine, barred = machine_of((NEST, CUTS, NO_FINALS, "", "behind"), "spelled")
        self.same(barred, tuple(range(machine[0])))
        for question in ("one", ("needless", (0,))):
            self.same(machine_of((NEST, CUTS, NO_FINALS, "", "behind"), question)[1], ())

    def test_drop_of_all_tokens_and_of_one(self):
        machine, barred = machine_of(TASK, ("needless", (0, 1, 2)))
        self.same((machine, barred), states_by_sets(TASK, ("needless", (0, 1, 2))))
        self.assertTrue(barred)
        self.same(machine_of(TASK, ("needless", (2,))), states_by_sets(TASK, ("needless", (2,))))

    def test_looped_names_are_let_in(self):
        self.same(machine_of((RING,) + TASK[1:], "one"), states_by_sets((RING,) + TASK[1:], "one"))

    def test_a_thousand_states(self):
        self.same(machine_of(FULL, "one")[0][0], 1000)
        self.refuses("TooMuch('states')", machine_of, OVER, "one")
        self.same(machine_of(OVER[:3] + ("a" * 249, "healed"), "one")[0][0], 997)
        self.refuses("TooMuch('states')", machine_of, OVER_SPARED, ("needless", (0,)))
        self.same(machine_of(OVER_SPARED[:3] + ("a" * 331, "healed"), ("needless", (0,)))[0][0], 998)

    def test_questions(self):
        self.refuses_all("NotUsable('question')", machine_of, (TASK,), NO_QUESTIONS)
        self.refuses_all("NotUsable('question')", machine_of, (OVER,), NO_QUESTIONS)
