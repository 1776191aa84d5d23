"""[4], [25]: grammars."""

from stillends.grammars import lets_grammar
from tests.helpers import DEEP, NEST, PAIRS, PART, Case

NAMES = ("s", "t")
RULES = ((0, ("a", 1)), (0, ()), (1, ("b",) * 12))
GRAMMAR = (NAMES, 0, RULES)


class LetsGrammarTest(Case):
    def test_returns_how_many_rules(self):
        for grammar in (NEST, PAIRS, PART, GRAMMAR):
            self.same(lets_grammar(grammar), len(grammar[2]))
        self.same(lets_grammar((("s",), 0, ())), 0)
        self.same(lets_grammar((("t", "s"), 1, ((0, (0,)),))), 1)
        self.same(lets_grammar((("a12345678901",), 0, ((0, ("~", " ", "0")),))), 1)

    def test_rules_of_a_name_stand_in_any_sequence(self):
        self.same(lets_grammar((NAMES, 1, ((0, ("b",)), (0, ("a",)), (1, (0,)), (1, ())))), 4)

    def test_limits_are_ignored(self):
        names = tuple(f"n{k}" for k in range(5001))
        rules = tuple((k // 2, (k,) if k < 5001 else ("a",) * (1 + (k & 1))) for k in range(6000))
        self.same(lets_grammar((names, 5000, rules)), 6000)

    def test_shape(self):
        for thing in (None, True, 0, "abc", [], list(NEST), (), NEST[:2], NEST + ((),), DEEP):
            self.refuses("InvalidPaper('shape', -1)", lets_grammar, thing)
        for wrong in (None, 0, "s", ["s"], []):
            self.refuses("InvalidPaper('shape', -1)", lets_grammar, (wrong, 0, RULES))
            self.refuses("InvalidPaper('shape', -1)", lets_grammar, (NAMES, 0, wrong))
        self.refuses("InvalidPaper('shape', -1)", lets_grammar, ((), 0, ()))

    def test_name(self):
        wrong = (
            None, True, 0, "", "S", "sT", "1s", "s_", "s ", " s", "s\n", "a123456789012", "-", ("s",), ["s"], "s%", "~",
        )
        for name in wrong:
            self.refuses("InvalidPaper('name', 0)", lets_grammar, ((name,), 0, ()))
            self.refuses("InvalidPaper('name', 1)", lets_grammar, (("s", name, "s"), None, RULES))

    def test_twice(self):
        self.refuses("InvalidPaper('twice', 1)", lets_grammar, (("s", "s", "S"), 0, ()))
        self.refuses("InvalidPaper('twice', 3)", lets_grammar, (("s", "t", "u", "t"), True, (None,)))

    def test_start(self):
        for start in (None, True, False, -1, 2, "s", "0", (0,), [0], 10**59):
            self.refuses("InvalidPaper('start', -1)", lets_grammar, (NAMES, start, RULES))
        self.refuses("InvalidPaper('start', -1)", lets_grammar, (NAMES, 2, (None,)))

    def test_rule(self):
        wrong = (
            None, 0, "ab", (), (0,), (0, (), ()), [0, ()], (True, ()), (False, ()), (2, ()), (-1, ()), ("s", ()),
            (None, ()), (0, None), (0, "a"), (0, ["a"]), (0, 0), DEEP,
        )
        for rule in wrong:
            self.refuses("InvalidPaper('rule', 0)", lets_grammar, (NAMES, 0, (rule,)))
            self.refuses("InvalidPaper('rule', 2)", lets_grammar, (NAMES, 0, RULES[:2] + (rule, None)))

    def test_order(self):
        self.refuses("InvalidPaper('order', 1)", lets_grammar, (NAMES, 0, ((1, ()), (0, ()))))
        self.refuses("InvalidPaper('order', 3)", lets_grammar, (NAMES, 0, RULES + ((0, ("x", None)),)))

    def test_body(self):
        wrong = (
            ("a",) * 13, (0,) * 13, (2,), (-1,), (True,), (False,), (None,), ("",), ("ab",), ("\n",), ("%",), ((0,),),
            ([],), ("a", 0, 2), ("a", "b", ("c",)), (10**59,),
        )
        for body in wrong:
            self.refuses("InvalidPaper('body', 0)", lets_grammar, (NAMES, 0, ((0, body), (0, body))))
            self.refuses("InvalidPaper('body', 2)", lets_grammar, (NAMES, 0, RULES[:2] + ((1, body),)))

    def test_twelve_symbols_are_let(self):
        self.same(lets_grammar((NAMES, 0, ((0, (0, "a") * 6),))), 1)

    def test_again(self):
        self.refuses("InvalidPaper('again', 1)", lets_grammar, (NAMES, 0, ((0, ("a",)), (0, ("a",)))))
        self.refuses("InvalidPaper('again', 2)", lets_grammar, (NAMES, 0, ((0, ()), (0, (0,)), (0, ()), (0, ("",)))))
        self.same(lets_grammar((NAMES, 0, ((0, ()), (1, ())))), 2)

    def test_all_checks_of_one_rule_come_before_the_next(self):
        self.refuses("InvalidPaper('again', 1)", lets_grammar, (NAMES, 0, ((0, ()), (0, ()), (5, ()))))
        self.refuses("InvalidPaper('body', 0)", lets_grammar, (NAMES, 0, ((1, (7,)), (0, ()))))
        self.refuses("InvalidPaper('rule', 1)", lets_grammar, (NAMES, 0, ((1, ()), (0, []))))
