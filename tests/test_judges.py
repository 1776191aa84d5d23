"""[97], [98]: whether answers show what they say."""

import random

from stillends.carelessrows import careless, careless_choices
from stillends.closedlists import items_of
from stillends.errors import TooMuch
from stillends.floors import cut_table
from stillends.judges import judge
from stillends.longestrows import longest
from stillends.meets import prices
from stillends.onerow import one_row
from stillends.predicting import reads_one_way
from stillends.setmachines import machine_of
from stillends.sparing import needless
from stillends.spelledall import spelled_all
from stillends.spellers import priced
from tests.chances import DOUBLE, LOST_TASKS, NO_TEXTS, one_way_grammar, rich_grammar, rich_task
from tests.helpers import CUTS, DEEP, FREE, FREE2, LONE, NEST, ODD, PAIRS, TASK, Case
from tests.proofs import PlainPositions, bent, takes_careless, takes_longest, takes_texts
from tests.test_longestrows import finite_grammar, pairs_grammar
from tests.test_setmachines import NO_QUESTIONS, ONLY_A, OVER, OVER_SPARED
from tests.test_spelledall import many_sets

LOW = (NEST, LONE, FREE2, "", "behind")
ONE = (1, (0,), ((0,),))
# A task in which the longest row has two tokens.
SHORT = (PAIRS, CUTS, FREE, "", "healed")


def answer_to(task, question):
    """What the function for the question returns."""
    functions = {"spelled": spelled_all, "one": one_row, "careless": careless, "longest": longest}
    return functions[question](task) if isinstance(question, str) else needless(task, question[1])


def takes(task, question, answer):
    """Whether the conditions hold for the answer."""
    if question == "careless":
        return takes_careless(task, answer, careless_choices)
    return takes_longest(task, answer) if question == "longest" else takes_texts(task, question, answer)


def some_questions(chance, task):
    many = len(task[1])
    drop = tuple(sorted(chance.sample(range(many), chance.randint(1, many))))
    return ["spelled", "one", ("needless", drop), "longest"] + (["careless"] if reads_one_way(task[0]) else [])


class JudgeTest(Case):
    def test_bent_answers_by_the_conditions(self):
        chance = random.Random(97)
        taken = {}
        for _ in range(200):
            grammar = chance.choice((rich_grammar, one_way_grammar, one_way_grammar, finite_grammar))(chance)
            task = rich_task(chance, grammar, most=3)
            for question in some_questions(chance, task):
                try:
                    answer = answer_to(task, question)
                except TooMuch:
                    continue
                self.same((judge(task, question, answer), takes(task, question, answer)), (True, True))
                for _ in range(12 if len(repr(answer)) < 2500 else 0):
                    other = bent(chance, answer)
                    expected = takes(task, question, other)
                    self.same(judge(task, question, other), expected)
                    taken.setdefault((question if isinstance(question, str) else "needless", expected), []).append(other)
        self.assertEqual(len(taken), 10)
        self.assertGreater(min(len(others) for others in taken.values()), 50)

    def test_answers_to_other_questions(self):
        chance = random.Random(971)
        for _ in range(100):
            task = rich_task(chance, chance.choice((one_way_grammar, finite_grammar))(chance), most=3)
            questions = some_questions(chance, task)
            answers = []
            for question in questions:
                try:
                    answers.append(answer_to(task, question))
                except TooMuch:
                    pass
            for question in questions:
                words = {answer[0] for answer in answers if judge(task, question, answer)}
                self.assertLess(len(words), 2)
                for answer in answers:
                    self.same(judge(task, question, answer), takes(task, question, answer))

    def test_example(self):
        self.same(judge(TASK, "longest", ("endless", ((-1,), (1, -1), (0,)))), True)

    def test_endless(self):
        good = ((-1,), (1, -1), (0,))
        for outer, inner, tree in (((1, -1), (1, -1), (0,)), ((-1,), (1, 1, -1), (1, 0)), ((1, 1, -1), (1, 1, 1, -1), (0,))):
            self.same(judge(TASK, "longest", ("endless", (outer, inner, tree))), True)
        wrong = (((-1,), (-1,), (0,)), ((0,), (1, -1), (0,)), ((-1,), (1, 0), (0,)), ((-1,), (1, -1), (-1,)), ((), (1, -1), (0,)))
        wrong += (((-1,), (1, -1), (1,)), ((-1, 0), (1, -1), (0,)), ((-1,), (1, -1, -1), (0,)), ((True, -1), (1, -1), (0,)))
        wrong += (([-1], (1, -1), (0,)), ((-1,), [1, -1], (0,)), ((-1,), (1, -1), [0]), good + (0,), good[:2], list(good), ())
        wrong += (((-1,), (1, -2), (0,)), ((-1,), (2, -1), (0,)), ((-1,), ("1", -1), (0,)), (None, None, None), DEEP)
        for thing in wrong + ODD:
            self.same(judge(TASK, "longest", ("endless", thing)), False)
            self.same(takes_longest(TASK, ("endless", thing)), False)
        # The loop is there, but no ways lead along it: no token for b, what is begun ahead, no final.
        for task in ((NEST, ("a",), ONE, "", "behind"), (NEST, CUTS, FREE, "b", "healed"), (NEST, CUTS, (1, (), ((0,) * 3,)), "", "behind")):
            self.same(judge(task, "longest", ("endless", good)), False)
        self.same(judge((NEST, CUTS, FREE, "aab", "behind"), "longest", ("endless", good)), False)
        # Only in sequence: from the place where the loop goes around.
        loop = ((("s",), 0, ((0, ("b",)), (0, ("a", 0)))), ("a", "b"), (2, (1,), ((0, 1), (-1, -1))), "", "behind")
        self.same(judge(loop, "longest", ("endless", ((-1,), (1, -1), (0,)))), True)
        self.same(judge(loop[:2] + ((2, (1,), ((1, 1), (-1, -1))), "", "behind"), "longest", ("endless", good)), False)

    def test_trees_with_holes(self):
        # Two holes, holes of other names, and rules of other names than that which is due.
        double = (DOUBLE,) + TASK[1:]
        for inner, taken in (((2, -1, 0), True), ((2, 0, -1), True), ((2, -1, -1), False), ((2, 2, -1, -1, 0), False), ((0,), False)):
            self.same(judge(double, "longest", ("endless", ((-1,), inner, (0,)))), taken)
            self.same(takes_longest(double, ("endless", ((-1,), inner, (0,)))), taken)
        grammar = (("s", "t"), 0, ((0, ("a", 1)), (0, ("c",)), (1, ("b", 0))))
        task = (grammar, ("a", "b", "c"), FREE, "", "behind")
        for outer, inner, tree, taken in (
            ((-1,), (0, 2, -1), (1,), True), ((0, 2, -1), (0, 2, -1), (1,), True), ((0, -1), (2, 0, -1), (2, 1), True), ((2, -1), (0, 2, -1), (1,), False),
            ((-1,), (2, -1), (1,), False), ((-1,), (2, 0, -1), (2, 1), False), ((0, -1), (0, 2, -1), (1,), False), ((0, -1), (2, -1), (2, 1), False),
        ):
            self.same(judge(task, "longest", ("endless", (outer, inner, tree))), taken)
            self.same(takes_longest(task, ("endless", (outer, inner, tree))), taken)

    def test_large_trees_are_let_in(self):
        for many in (400, 5000):
            outer, inner = (1,) * many + (-1,), (1,) * many + (-1,)
            self.same(judge(TASK, "longest", ("endless", (outer, inner, (1,) * many + (0,)))), True)

    def test_most(self):
        word, row, table = longest(SHORT)
        self.same((word, row, judge(SHORT, "longest", (word, row, table))), ("most", (0, 0), True))
        for other in ((0,), (), (0, 0, 0), (1, 1), (0, 1), [0, 0], (False, 0), (0, 3), None, "", "aa"):
            self.same(judge(SHORT, "longest", ("most", other, table)), False)
        for told in ODD + ("", 0, (), (0, 0, 0), (0, 0, 0, 0, 0), [0, 0, 0, 2], (0, 0, 0, -1), (0, 0, 0, True), DEEP):
            self.same(judge(SHORT, "longest", ("most", row, table + (told,))), False)
        for told in ((2, 0, 0, 9), (0, 2, 0, 9), (0, 0, 2, 9), (-1, 0, 0, 9), (0, 0, 0, 2), (0, 0, 0, 1)):
            self.same(judge(SHORT, "longest", ("most", row, table + (told,))), False)
        # An item without ways may be told, with any number; and any sequence is let in.
        self.same(judge(SHORT, "longest", ("most", row, ((0, 1, 1, 10**70),) + table[::-1])), True)
        for k, told in enumerate(table):
            self.same(judge(SHORT, "longest", ("most", row, table[:k] + table[k + 1 :])), False)
            for more in (-1, 1):
                changed = table[:k] + (told[:3] + (told[3] + more,),) + table[k + 1 :]
                self.same(judge(SHORT, "longest", ("most", row, changed)), False)
        # Longer than what longest may hand out.
        long = (pairs_grammar(7), ("a",), ONE, "", "behind")
        told = tuple((0, k, 0, 2 ** (7 - k)) for k in range(8))
        self.same(judge(long, "longest", ("most", (0,) * 128, told)), True)
        self.same(judge(long, "longest", ("most", (0,) * 127, told)), False)

    def test_long_texts_are_let_in(self):
        # The shortest text without a row has 71 letters, too many for spelled_all to hand out.
        task = (ONLY_A, ("aa",), ONE, "a" * 71, "healed")
        self.refuses("TooMuch('text')", spelled_all, task)
        table = prices(ONLY_A, machine_of(task, "spelled")[0])
        for many, taken in ((71, True), (73, False), (72, False), (70, False), (1301, False)):
            self.same(judge(task, "spelled", ("none", "a" * many, table)), taken)
        self.same(judge(task, "spelled", ("none", "a" * 71, cut_table(table, 71))), True)
        self.same(judge(task, "spelled", ("none", "a" * 71, cut_table(table, 70))), False)

    def test_careless(self):
        answer = careless(LOW)
        self.same(judge(LOW, "careless", answer), True)
        for row in ((1,), (), (0, 0), (0, 1), [0], (False,), (2,), (1, 1, 0), None):
            self.same(judge(LOW, "careless", ("lost", row, answer[2])), False)
        self.same(judge(LOW, "careless", ("lost", (), ())), False)
        for task in LOST_TASKS:
            self.same(judge(task, "careless", ("lost", (), ())), True)
            for other in (("never", ()), ("lost", (), [] ), ("lost", [], ()), ["lost", (), ()], ("lost", ()), ("lost", (0,), ())):
                self.same(judge(task, "careless", other), False)
        word, positions = careless(TASK)
        self.same(judge(TASK, "careless", (word, positions[::-1])), True)
        self.same(judge(TASK, "careless", (word, positions + positions[:1])), False)
        # A position more, whose moves lead to those that are there.
        more = (0, 0, (), 1)
        self.same(judge(TASK, "careless", (word, positions + (more,))), takes(TASK, "careless", (word, positions + (more,))))

    def test_items_with_barred_ones(self):
        # What has ways is closed, but it does not show what is not so.
        for task, question, word in ((LOW, "spelled", "all"), (TASK, "one", "one"), (TASK, ("needless", (1,)), "needless")):
            items = items_of(NEST, machine_of(task, question)[0])
            self.same((answer_to(task, question)[0] == word, judge(task, question, (word, items))), (False, False))
        self.same(judge(TASK, "longest", ("none", items_of(NEST, priced(*TASK[1:])))), False)
        for task in LOST_TASKS:
            self.same(judge(task, "longest", ("none", items_of(task[0], priced(*task[1:])))), True)
        nowhere = (NEST, ("a",), ONE, "a", "healed")
        self.same(judge(nowhere, "longest", ("none", items_of(NEST, priced(*nowhere[1:])))), True)
        self.same(judge((ONLY_A,) + nowhere[1:], "longest", ("none", items_of(ONLY_A, priced(*nowhere[1:])))), False)

    def test_two_rows(self):
        word, text, row, other, table = one_row(TASK)
        self.same((text, judge(TASK, "one", (word, text, other, row, table))), ("ab", True))
        for one, two in ((row, row), (other, other), (row, (0,)), ((0,), row), (row, (0, 2)), ((0, True), (2,)), ((2,), (False, 1)), (row, list(other))):
            self.same(judge(TASK, "one", (word, text, one, two, table)), False)
        task = (ONLY_A, ("a", "aa"), FREE2, "", "behind")
        word, text, row, other, table = one_row(task)
        for wrong in ((2,), (0, 2), (-1,)):
            self.same(judge(task, "one", (word, text, row, wrong, table)), False)
            self.same(judge(task, "one", (word, text, wrong, row, table)), False)
        # One that the book does not take spells the text, too.
        task = (ONLY_A, ("a", "aa", "aaa"), (3, (2,), ((1, 2, 2), (-1, 2, -1), (-1, -1, -1))), "", "behind")
        word, text, row, other, table = one_row(task)
        self.same((text, sorted((row, other)), judge(task, "one", (word, text, row, other, table))), ("aaa", [(0, 1), (2,)], True))
        for wrong in ((0, 0, 0), (1, 0)):
            for one, two in ((wrong, row), (row, wrong), (wrong, other)):
                self.same(judge(task, "one", (word, text, one, two, table)), False)

    def test_positions_with_barred_ones(self):
        plain, costs = PlainPositions(LOW), {}
        due = [(0, position) for position in plain.firsts()]
        while due:
            cost, position = due.pop()
            if costs.get(position, cost + 1) > cost:
                costs[position] = cost
                due.extend((cost + price, there) for price, there in plain.moves(position))
        self.same(judge(LOW, "careless", ("never", tuple(costs))), False)
        barred = [position for position in costs if plain.is_barred(position)]
        self.same({costs[position] for position in barred} >= {1}, True)
        whole = tuple(position + (cost,) for position, cost in costs.items())
        # With all positions the row with one token is shown to have the fewest, but none with more.
        for row, taken in (((0,), True), ((0, 0), False), ((0, 1), False), ((1,), False), ((0, 0, 0), False)):
            self.same((judge(LOW, "careless", ("lost", row, whole)), takes(LOW, "careless", ("lost", row, whole))), (taken, taken))
        for told in ODD + (0, "", (), whole[0][:4], whole[0] + (0,), list(whole[0]), whole[0][:4] + (True,), whole[0][:4] + (None,), DEEP):
            self.same(judge(LOW, "careless", ("lost", (0,), whole + (told,))), False)
        for k, told in enumerate(whole):
            self.same(judge(LOW, "careless", ("lost", (0,), whole + (told[:4] + (9,),))), False)
            greater = whole[:k] + (told[:4] + (told[4] + 1,),) + whole[k + 1 :]
            self.same(judge(LOW, "careless", ("lost", (0,), greater)), takes(LOW, "careless", ("lost", (0,), greater)))

    def test_positions_of_useless_rules(self):
        grammar = (("s", "u"), 0, NEST[2] + ((1, ("c",)),))
        task = (grammar,) + TASK[1:]
        word, positions = careless(task)
        self.same((word, judge(task, "careless", (word, positions))), ("never", True))
        for position in ((2, 0, (0,), 0), (2, 1, (0,), 0), (3, 0, (0,), 0), (-1, 0, (0,), 0)):
            self.same(judge(task, "careless", (word, positions + (position,))), False)

    def test_more_items_than_needed(self):
        # Items that no good row needs, but that have ways: their numbers count, and what they are put together of.
        grammar = (("s", "t", "u"), 0, ((0, (1,)), (1, ("a",)), (2, (1, 1)), (2, ("b",))))
        task = (grammar, CUTS, FREE, "", "behind")
        word, row, table = longest(task)
        self.same((row, judge(task, "longest", (word, row, table))), ((0,), True))
        for more, taken in (
            (((0, 2, 0, 2),), True), (((0, 2, 0, 1),), False), (((0, 2, 0, 9),), True), (((1, 2, 1, 0),), True), (((0, 2, 1, 0),), False),
            (((0, 2, 1, 1), (0, 1, 1, 0)), True), (((0, 2, 1, 0), (0, 1, 1, 0)), False), (((0, 1, 1, 0),), True),
        ):
            self.same(takes_longest(task, (word, row, table + more)), taken)
            self.same(judge(task, "longest", (word, row, table + more)), taken)

    def test_integers_below_0_are_let_in(self):
        word, row, table = careless(LOW)
        less = tuple(told[:4] + (told[4] - 5,) for told in table)
        self.same(judge(LOW, "careless", (word, row, less)), takes(LOW, "careless", (word, row, less)))
        word, text, table = spelled_all(LOW)
        less = tuple(told if told[:2] == (0, 0) else told[:3] + (told[3] - 1,) for told in table)
        self.same(judge(LOW, "spelled", (word, text, less)), takes(LOW, "spelled", (word, text, less)))

    def test_any_value_is_let_in(self):
        for question in ("spelled", "one", ("needless", (0,)), "careless", "longest"):
            for value in ODD + (0, "", "all", (), ("all",), ("all", None), ("none", "", ()), ["all", ()], DEEP, (None,) * 3):
                self.same(judge(TASK, question, value), False)
        for word in ("all", "one", "needless", "never", "none"):
            for things in ([], None, "", ((),), ((0, 0),), ([0, 0, 0],), ((True, 0, 0),), (None,)):
                for question in ("spelled", "one", ("needless", (0,)), "careless", "longest"):
                    self.same(judge(TASK, question, (word, things)), False)

    def test_questions(self):
        for question in NO_QUESTIONS:
            if question not in ("careless", "longest"):
                self.refuses("NotUsable('question')", judge, TASK, question, None)
                self.refuses("NotUsable('question')", judge, OVER, question, None)

    def test_questions_hang_on_the_tokens(self):
        self.refuses("NotUsable('question')", judge, LOW, ("needless", (2,)), None)
        self.same(judge(LOW, ("needless", (1,)), needless(LOW, (1,))), True)
        self.refuses("NotUsable('question')", machine_of, LOW, ("needless", (2,)))
        self.refuses("NotUsable('drop')", needless, LOW, (2,))

    def test_errors(self):
        for answer in (None, ("all", ()), ("one", ())):
            self.refuses("TooMuch('states')", judge, many_sets(12), "spelled", answer)
            self.refuses("TooMuch('states')", judge, OVER, "one", answer)
            self.refuses("TooMuch('states')", judge, OVER_SPARED, ("needless", (0,)), answer)
            self.refuses("NotOneWay(0, 0, 2, 'a')", judge, (DOUBLE,) + TASK[1:], "careless", answer)
        self.same(judge((DOUBLE,) + TASK[1:], "longest", None), False)
        self.same(judge((NO_TEXTS,) + TASK[1:], "longest", ("none", ())), True)
