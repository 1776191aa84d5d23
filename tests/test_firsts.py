"""[9], [57]: first letters."""

import random

from stillends.firsts import first_letters
from stillends.listings import texts_upto
from tests.chances import FORK, KNOWN, NO_TEXTS, in_sequence, one_way_grammar, rich_grammar
from tests.helpers import NEST, PART, Case
from tests.plainly import Stands
from tests.test_trees import ODD_ONES, RING
from tests.test_usefulness import parts_by_sets


class FirstLettersTest(Case):
    def test_by_the_texts(self):
        chance = random.Random(57)
        for grammar in [rich_grammar(chance, "abc") for _ in range(300)] + [one_way_grammar(chance) for _ in range(100)]:
            stands = Stands(grammar)
            expected = []
            for name in range(len(grammar[0])):
                letters = stands.first((name,)) - {""} if name in stands.names else ()
                expected.append(tuple(sorted(letters)))
            self.same(first_letters(grammar), tuple(expected))

    def test_by_short_texts(self):
        for grammar in KNOWN:
            useful = parts_by_sets(grammar)[0]
            for name in useful:
                own = (grammar[0], name, grammar[2])
                found = tuple(sorted({text[0] for text in texts_upto(own, 4) if text}))
                self.same(first_letters(grammar)[name], found)

    def test_edges(self):
        self.same(first_letters(FORK), (("a", "c"), ("a",), ()))
        self.same(first_letters(NO_TEXTS), ((),))
        self.same(first_letters(NEST), (("a",),))
        self.same(first_letters(RING), (("a",),))
        self.same(first_letters(ODD_ONES), (("a",), (), (), ()))
        self.same(first_letters(PART), (("b",), ("b",), ()))
        self.same(first_letters((("s",), 0, ((0, ()),))), ((),))
        # A useless rule of a useful name does not count.
        self.same(first_letters((("s", "t"), 0, ((0, ("a",)), (0, ("b", 1)), (1, (1,))))), (("a",), ()))

    def test_up_to_the_limits(self):
        names = tuple(f"n{k}" for k in range(60))
        letters = "".join(chr(k) for k in range(32, 127) if chr(k) != "%")
        rules = in_sequence([(k, (k + 1, k + 1)) for k in range(59)] + [(59, ())] + [(59, (sign,)) for sign in letters])
        self.same(first_letters((names, 0, rules)), (tuple(letters),) * 60)
