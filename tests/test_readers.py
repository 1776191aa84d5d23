"""[65], [66], [67]: readers."""

import random

from stillends.members import begins
from stillends.nextletters import next_letters
from stillends.readers import Reader
from stillends.readings import read_tree
from stillends.stands import stand_behind
from tests.chances import DYCK, FORK, LEFT, LISTS, NO_TEXTS, REGULAR, one_way_grammar
from tests.helpers import NEST, Case
from tests.plainly import Stands
from tests.test_stands import BAD_LETTERS
from tests.test_trees import ODD_ONES, RING


class ReaderTest(Case):
    def check(self, reader, grammar, stands, text):
        told = stands.behind(text)
        self.same(reader.text(), text)
        self.same(reader.stand(), told and told[0])
        self.same(reader.stand(), stand_behind(grammar, text))
        self.same(reader.rules(), told[1] if told else ())
        self.same(reader.end(), read_tree(grammar, text))
        if reader.end() is not None:
            self.same(reader.end()[: len(reader.rules())], reader.rules())

    def test_letter_by_letter(self):
        chance = random.Random(65)
        ends = 0
        for grammar in [one_way_grammar(chance) for _ in range(150)] + [NEST, FORK, DYCK, LISTS, NO_TEXTS, ODD_ONES]:
            reader = Reader(grammar)
            stands = Stands(grammar)
            text = ""
            for _ in range(12):
                self.check(reader, grammar, stands, text)
                letter = chance.choice("abcd" if grammar == LISTS else "ab")
                expected = letter in next_letters(grammar, text)[0]
                self.same(expected, begins(grammar, text + letter))
                self.same(reader.push(letter), expected)
                text += letter if expected else ""
                ends += reader.end() is not None
        self.assertGreater(ends, 100)

    def test_example(self):
        reader = Reader(NEST)
        self.same((reader.push("a"), reader.push("b"), reader.push("a")), (True, True, False))
        self.same((reader.text(), reader.stand(), reader.rules(), reader.end()), ("ab", (), (1, 0), (1, 0)))

    def test_without_texts(self):
        reader = Reader(NO_TEXTS)
        for _ in range(2):
            self.same((reader.text(), reader.stand(), reader.rules(), reader.end()), ("", None, (), None))
            self.same(reader.push("a"), False)

    def test_goes_on_beyond_the_limits(self):
        reader = Reader(NEST)
        for _ in range(5000):
            self.same(reader.push("a"), True)
        self.same((reader.text(), reader.stand(), reader.end()), ("a" * 5000, (0,) + ("b",) * 5000, None))
        self.refuses("TooMuch('tree')", reader.rules)
        for _ in range(4999):
            reader.push("b")
        self.same((reader.push("a"), reader.stand(), reader.end()), (False, ("b",), None))
        self.same((reader.push("b"), reader.stand(), reader.push("b")), (True, (), False))
        self.refuses("TooMuch('tree')", reader.end)
        self.same(len(reader.text()), 10000)

    def test_four_thousand_rules_and_one_more(self):
        reader = Reader(REGULAR)
        for _ in range(3999):
            reader.push("a")
        self.same((len(reader.rules()), len(reader.end())), (3999, 4000))
        reader.push("b")
        self.same(len(reader.rules()), 4000)
        self.refuses("TooMuch('tree')", reader.end)
        reader.push("b")
        self.refuses("TooMuch('tree')", reader.rules)
        self.refuses("TooMuch('tree')", reader.end)
        self.same((reader.push("a"), reader.stand(), len(reader.text())), (True, (0,), 4002))

    def test_empty_trees_of_any_size(self):
        names = tuple(f"n{k}" for k in range(60))
        rules = ((0, ("a", 1, "b", 57)),) + tuple((k, (k + 1,) * 12 if k < 59 else ()) for k in range(1, 60))
        reader = Reader((names, 0, rules))
        self.same((reader.push("a"), reader.rules(), reader.push("b")), (True, (0,), True))
        self.refuses("TooMuch('tree')", reader.rules)
        self.refuses("TooMuch('tree')", reader.end)
        self.same(reader.stand(), (57,))

    def test_readers_are_apart(self):
        first, second = Reader(NEST), Reader(NEST)
        first.push("a")
        self.same((first.text(), second.text(), second.stand()), ("a", "", (0,)))
        self.same(second.push("b"), False)
        second.push("a")
        second.push("b")
        self.same((first.stand(), second.end()), ((0, "b"), (1, 0)))

    def test_refuses(self):
        for grammar in (NEST, NO_TEXTS):
            reader = Reader(grammar)
            reader.push("a")
            before = (reader.text(), reader.stand())
            self.refuses_all("NotUsable('letter')", reader.push, (), BAD_LETTERS)
            self.same((reader.text(), reader.stand()), before)
        self.refuses("NotOneWay(0, 0, 1, 'a')", Reader, RING)
        self.refuses("NotOneWay(0, 0, 1, 'a')", Reader, LEFT)

    def test_by_name(self):
        reader = Reader(grammar=NEST)
        self.same(reader.push(letter="a"), True)
