"""[89], [92], (G10): whether tokens spell all texts."""

import random

from stillends.closedlists import closed_list, items_of
from stillends.floors import floor_holds
from stillends.judges import judge
from stillends.listings import texts_upto
from stillends.respells import rows_of
from stillends.setmachines import machine_of
from stillends.spelledall import spelled_all
from tests.chances import LOST_TASKS, NO_FINALS, NO_TEXTS, known_tasks, rich_grammar, rich_task
from tests.helpers import CUTS, FREE2, LONE, NEST, TASK, Case
from tests.proofs import takes_texts
from tests.test_setmachines import A_OR_B, ONLY_A
from tests.test_trees import ODD_ONES, RING

LOW = (NEST, LONE, FREE2, "", "behind")
ONE = (1, (0,), ((0,),))
# Its only tree has 2 ** 60 - 1 rules, and no letters.
DEEP_TREE = (tuple(f"n{k}" for k in range(60)), 0, tuple((k, (k + 1,) * 2 if k < 59 else ()) for k in range(60)))
# It has letters, but no texts.
NO_END = (("s",), 0, ((0, ("a", 0)), (0, ("b", 0))))


class SpelledAllTest(Case):
    def check(self, task, most):
        """The answer as the list of texts with at most so many letters tells it; it returns its first element."""
        answer = spelled_all(task)
        unspelled = [text for text in texts_upto(task[0], most) if text.startswith(task[3]) and not rows_of(task, text)]
        if answer[0] == "all":
            self.same(unspelled, [])
        elif unspelled:
            self.same(len(answer[1]), len(unspelled[0]))
            self.assertIn(answer[1], unspelled)
        else:
            self.assertGreater(len(answer[1]), most)
        self.same(judge(task, "spelled", answer), True)
        self.same(takes_texts(task, "spelled", answer), True)
        self.same(spelled_all(task), answer)
        return answer[0]

    def test_by_lists(self):
        chance = random.Random(89)
        words = [self.check(rich_task(chance, rich_grammar(chance), most=4), 6) for _ in range(200)]
        self.assertGreater(min(words.count("all"), words.count("none")), 50)

    def test_known_tasks(self):
        for task in known_tasks()[::2]:
            self.check(task, 6)

    def test_example(self):
        self.same(spelled_all(LOW)[:2], ("none", "aabb"))
        self.same(spelled_all(TASK)[0], "all")

    def test_items_and_tables(self):
        machine, barred = machine_of(LOW, "spelled")
        self.same((barred, floor_holds(NEST, machine, spelled_all(LOW)[2])), ((2,), True))
        machine, barred = machine_of(TASK, "spelled")
        items = spelled_all(TASK)[1]
        self.same((closed_list(NEST, machine, items), set(items) >= set(items_of(NEST, machine))), (True, True))
        self.same([item for item in items if item[:2] == (0, 0) and item[2] in barred], [])

    def test_the_empty_text(self):
        never = (NEST, CUTS, (2, (1,), ((1, 1, 1), (1, 1, 1))), "", "behind")
        self.same(spelled_all(never)[:2], ("none", ""))
        self.same(judge(never, "spelled", spelled_all(never)), True)
        self.same(spelled_all((NEST, CUTS, (1, (), ((0, 0, 0),)), "", "healed"))[:2], ("none", ""))

    def test_start_that_is_not_useful(self):
        for task in LOST_TASKS:
            self.check(task, 6)
        self.same(spelled_all((NO_TEXTS,) + TASK[1:]), ("all", ()))
        # The first state is barred, but no text leads to it.
        self.same(spelled_all((NO_TEXTS, CUTS, NO_FINALS, "", "behind")), ("all", ()))
        self.check((ODD_ONES, LONE, FREE2, "", "behind"), 6)

    def test_texts_of_60_letters_and_of_61(self):
        for many in (1, 59):
            # The book takes rows with fewer tokens than so many.
            book = (many + 1, tuple(range(many)), counting(many))
            for begun, mode in (("", "behind"), ("a" * many, "healed"), ("a", "behind")):
                answer = spelled_all((ONLY_A, ("a",), book, begun, mode))
                self.same(answer[:2], ("none", "a" * (many + (begun == "a" and mode == "behind"))))
                self.same(judge((ONLY_A, ("a",), book, begun, mode), "spelled", answer), True)
        self.refuses("TooMuch('text')", spelled_all, (ONLY_A, ("aa",), ONE, "a" * 61, "healed"))
        self.same(spelled_all((ONLY_A, ("aa",), ONE, "a" * 59, "healed"))[:2], ("none", "a" * 59))
        self.same(spelled_all((ONLY_A, ("aa",), ONE, "a" * 59, "behind"))[:2], ("none", "a" * 60))
        self.refuses("TooMuch('text')", spelled_all, (ONLY_A, ("aa",), ONE, "a" * 60, "behind"))

    def test_long_trees_of_short_texts(self):
        self.same(spelled_all((DEEP_TREE, ("a",), (1, (), ((0,),)), "", "behind"))[:2], ("none", ""))

    def test_looped_names_are_let_in(self):
        self.check((RING,) + TASK[1:], 4)
        self.check((RING, ("b",), ONE, "", "behind"), 4)

    def test_too_many_states(self):
        task = many_sets(12)
        self.refuses("TooMuch('states')", spelled_all, task)
        self.refuses("TooMuch('states')", machine_of, task, "spelled")
        self.refuses("TooMuch('states')", spelled_all, (NO_END,) + task[1:])
        self.same(spelled_all(many_sets(6))[0], "all")


def counting(many):
    """A table for one token that counts it up to so many, and then stays."""
    return tuple((min(k + 1, many),) for k in range(many + 1))


def many_sets(most):
    """A task that tells which of the last letters were a, so many of them: for "spelled" each set of these is met.

    State 0 goes on with a or b; aa and ab lead from it to a chain that each letter goes along.
    """
    rows = [(0, 0, 1, 1)] + [(k + 1, k + 1, -1, -1) for k in range(1, most)] + [(-1, -1, -1, -1)]
    return (A_OR_B, ("a", "b", "aa", "ab"), (most + 1, (0,), tuple(rows)), "", "behind")
