"""[75], [76]: carried runs."""

import random

from stillends.carries import carry
from stillends.guides import Guide
from stillends.listings import texts_upto
from stillends.liveruns import Run
from stillends.needing import need
from stillends.plainruns import PlainRun
from stillends.readers import Reader
from stillends.tasks import letters_read
from tests.chances import DYCK, LEFT, NO_TEXTS, REGULAR, one_way_grammar, rich_case, rich_task
from tests.helpers import CUTS, DEEP, FREE, FREE2, LONE, NEST, ODD, TASK, Case
from tests.test_trees import RING


def some_run(chance, task, most, budget):
    run = Guide(task).run(budget)
    for _ in range(chance.randint(0, most)):
        fitting = run.choices()[0]
        if fitting:
            run.write(chance.choice(fitting))
    return run


class CarryTest(Case):
    def test_it_is_a_run_of_the_new_task(self):
        chance = random.Random(75)
        words = []
        for _ in range(500):
            task = rich_task(chance, one_way_grammar(chance))
            texts = texts_upto(task[0], 5)
            if texts and chance.random() < 0.5:
                task = task[:3] + (chance.choice(texts[-3:]), "healed")
            least = need(task, ())
            if least is None or least > 9:
                continue
            budget = least + chance.randint(0, 3)
            run = some_run(chance, task, chance.randint(0, budget), budget)
            before = (run.row(), run.text(), run.left(), run.choices(), run.rules())
            grammar = task[0] if chance.random() < 0.5 else one_way_grammar(chance)
            tokens, book, _ = rich_case(chance)
            letters = letters_read(task, run.row())
            short = task[4] == "healed" and len(letters) < len(task[3])
            new = (grammar, tokens, book) + ((task[3], "healed") if short else (letters, "behind"))
            least = need(new, ())
            if least is None or least > run.left():
                self.refuses("NoEnding", carry, run, grammar, tokens, book)
                words.append("lost")
            else:
                other = carry(run, grammar, tokens, book)
                plain = PlainRun(new, run.left())
                self.same(other.guide().task(), new)
                self.assertIsNot(other.guide(), run.guide())
                self.same((other.row(), other.left(), other.ended(), other.need()), ((), run.left(), False, least))
                self.same((other.text(), other.text()), (run.text(), plain.text()))
                self.same((other.choices(), other.looked()), (plain.choices(), plain.looked()))
                words.append(new[4])
            self.same((run.row(), run.text(), run.left(), run.choices(), run.rules()), before)
        for word in ("lost", "behind", "healed"):
            self.assertGreater(words.count(word), 9, word)

    def test_with_the_same_grammar_and_tokens(self):
        """With free books, and begun passed, the choices are those of the run."""
        chance = random.Random(751)
        same = 0
        for _ in range(200):
            task = rich_task(chance, one_way_grammar(chance))
            task = task[:2] + ((1, (0,), ((0,) * len(task[1]),)),) + task[3:]
            least = need(task, ())
            if least is not None and least <= 5:
                run = some_run(chance, task, 5, 5)
                if len(letters_read(task, run.row())) >= len(task[3]):
                    other = carry(run, *task[:3])
                    self.same((other.choices(), other.text(), other.rules()), (run.choices(), run.text(), run.rules()))
                    same += 1
        self.assertGreater(same, 50)

    def test_example(self):
        run = Guide(TASK).run(2)
        run.write(0)
        self.same(carry(run, NEST, ("bb", "b"), FREE2).choices(), ((1,), False))
        self.refuses("NoEnding", carry, run, NEST, LONE, FREE2)

    def test_the_two_are_apart(self):
        run = Guide(TASK).run(4)
        run.write(0)
        other = carry(run, NEST, CUTS, FREE)
        other.write(1)
        run.write(0)
        self.same((run.row(), other.row(), run.text(), other.text()), ((0, 0), (1,), "aa", "ab"))
        other.write(-1)
        self.same((run.ended(), other.ended(), other.tree(), other.left()), (False, True, (1, 0), 2))

    def test_healed_goes_on_as_healed_until_begun_is_passed(self):
        run = Guide((NEST, ("a", "b"), FREE2, "aab", "healed")).run(4)
        run.write(0)
        other = carry(run, NEST, CUTS, FREE)
        self.same(other.guide().task(), (NEST, CUTS, FREE, "aab", "healed"))
        self.same((other.text(), other.left(), other.choices()), ("aab", 3, ((0,), False)))
        run.write(0)
        run.write(1)
        other = carry(run, NEST, CUTS, FREE)
        self.same(other.guide().task(), (NEST, CUTS, FREE, "aab", "behind"))
        self.same((other.left(), other.choices()), (1, ((1,), False)))

    def test_texts_of_any_length(self):
        run = Guide((REGULAR, ("a" * 12, "b"), FREE2, "b" * 400, "behind")).run(60)
        tokens = ("a" * 12, "b", "a" * 11)
        length = 400
        for _ in range(4):
            for _ in range(30):
                run.write(0)
            length += 360
            carried = carry(run, REGULAR, tokens, FREE)
            self.same((len(carried.text()), carried.left(), carried.choices()), (length, 30, ((0, 1, 2), True)))
            run = Guide(carried.guide().task()).run(60)
        self.refuses("TooMuch('tree')", Guide(run.guide().task()[:3] + ("a" * 4001, "behind")).run(1).rules)
        deep = Guide((NEST, ("a" * 12, "b" * 100), FREE2, "a" * 400, "behind")).run(60)
        for _ in range(50):
            deep.write(0)
        other = carry(deep, NEST, ("a", "b" * 100), FREE2)
        self.same((other.need(), other.sure_text(), other.choices()), (10, "b" * 1000, ((1,), False)))

    def test_the_sequence_of_errors(self):
        for value in ODD + (0, "", DEEP, Guide(TASK), Reader(NEST), PlainRun(TASK, 2)):
            self.refuses("NotUsable('run')", carry, value, LEFT, CUTS, FREE)
        run = Guide(TASK).run(2)
        self.refuses("NotOneWay(0, 0, 1, 'a')", carry, run, RING, CUTS, FREE)
        self.refuses("NotOneWay(0, 0, 1, 'a')", carry, run, LEFT, CUTS, (1, (), ((0, 0, 0),)))
        self.refuses("NoEnding", carry, run, NO_TEXTS, CUTS, FREE)
        self.refuses("NoEnding", carry, run, NEST, CUTS, (1, (), ((0, 0, 0),)))
        run.write(-1)
        self.refuses("Ended", carry, run, NEST, CUTS, FREE)
        self.refuses("Ended", carry, run, LEFT, CUTS, FREE)
        run.back(0)
        self.same(carry(book=FREE, tokens=CUTS, grammar=DYCK, run=run).choices(), ((0, 2), True))
        self.assertIsInstance(carry(run, NEST, CUTS, FREE), Run)

    def test_no_tokens_left(self):
        run = Guide(TASK).run(1)
        run.write(2)
        other = carry(run, NEST, CUTS, FREE)
        self.same((other.left(), other.choices(), other.rules()), (0, ((), True), (1, 0)))
        self.refuses("NoEnding", carry, run, REGULAR, CUTS, (2, (1,), ((1, 1, 1), (0, 0, 0))))
