"""[112], [113], [118]: grammars as lines."""

import random

from stillends.grammars import lets_grammar
from stillends.grammartexts import grammar_lines, read_grammar
from tests.chances import KNOWN, NO_TEXTS, ring_grammar, rich_grammar
from tests.helpers import DEEP, NEST, ODD, Case
from tests.test_trees import ODD_ONES

LETTERS = tuple(chr(code) for code in range(32, 127) if chr(code) != "%")
# What is no line of a name, behind a line "start s".
NO_LINES = (
    "", " ", "s", "s ", " s =", "s= -", "s =-", "s  = -", "s = ", "s =  -", "s = - ", "s == -", "= -", "S = -", "1s = -", "s_ = -", "s = |", "s = | -",
    "s = - |", "s = - | | -", "s = -|-", "s = - -", "s = - s", "s = s -", "s = S", "s = 'a", "s = a'", "s = 'ab'", "s = ''", "s = '", "s = ' '' '",
    "s = 'a''b'", "s = 'a' 'b", "s = 'a'  'b'", "s = 'a'b", "s = \"a\"", "s = 'a' |'b'", "s = 'a'|'b'", "s = 'a'x'b'", "s = ab'", "s = 'ab", "s = abcdefghijklm", "abcdefghijklm = -", "'s' = -", "- = -",
    "start s", "s = s1 S1", "s = '%'", "s = 0", "s = =", "| = -",
)


class GrammarLinesTest(Case):
    def test_there_and_back(self):
        chance = random.Random(113)
        for grammar in [rich_grammar(chance) for _ in range(300)] + list(KNOWN) + [ODD_ONES, NO_TEXTS, ring_grammar(60)]:
            text = grammar_lines(grammar)
            self.same(read_grammar(text), grammar)
            self.same(grammar_lines(read_grammar(text)), text)

    def test_example(self):
        self.same(grammar_lines(NEST), "start s\ns = - | 'a' s 'b'")
        self.same(read_grammar("start s\ns = - | 'a' s 'b'"), NEST)

    def test_lines(self):
        grammar = (("a1", "start", "z"), 1, ((0, ()), (0, ("a", 0, 2)), (1, (0,)), (1, (1, "|")), (1, ("=", "-", "'", " "))))
        self.same(grammar_lines(grammar), "start start\na1 = - | 'a' a1 z\nstart = a1 | start '|' | '=' '-' ''' ' '\nz =")
        self.same(read_grammar(grammar_lines(grammar)), grammar)

    def test_all_letters(self):
        for body in (LETTERS[:12], LETTERS[-12:], (" ", " ", "'", "'"), ("'",), (" ",)):
            grammar = (("s",), 0, ((0, body),))
            self.same(read_grammar(grammar_lines(grammar)), grammar)
        for letter in LETTERS:
            grammar = (("s",), 0, ((0, (letter, 0, letter)),))
            self.same(grammar_lines(grammar), f"start s\ns = '{letter}' s '{letter}'")
            self.same(read_grammar(grammar_lines(grammar)), grammar)

    def test_at_the_limits(self):
        names = tuple(f"n{k}" for k in range(59)) + ("abcdefghijk9",)
        grammar = (names, 59, tuple((k // 7, (k % 60,) * 12) for k in range(399)))
        self.same(lets_grammar(grammar), 399)
        self.same(read_grammar(grammar_lines(grammar)), grammar)


class ReadGrammarTest(Case):
    def test_form(self):
        for line in NO_LINES:
            self.refuses("InvalidText(1, 'form')", read_grammar, "start s\n" + line)
            self.refuses("InvalidText(2, 'form')", read_grammar, "start s\ns = -\n" + line.replace("s =", "t ="))
        for line in ("", "start", "start ", " start s", "start  s", "start s ", "start S", "start 's'", "start s t", "s = -", "Start s", "start abcdefghijklm"):
            self.refuses("InvalidText(0, 'form')", read_grammar, line)
            self.refuses("InvalidText(0, 'form')", read_grammar, line + "\ns = -")
        self.refuses("InvalidText(2, 'form')", read_grammar, "start s\ns = -\n")
        self.refuses("InvalidText(1, 'form')", read_grammar, "start s\n\ns = -")
        # Any words and any number of symbols have the form.
        self.refuses("InvalidText(1, 'name')", read_grammar, "start s\ns = t")
        self.refuses("InvalidText(1, 'body')", read_grammar, "start s\ns =" + " 'a'" * 13)

    def test_twice(self):
        self.refuses("InvalidText(2, 'twice')", read_grammar, "start s\ns = -\ns = 'a'")
        self.refuses("InvalidText(3, 'twice')", read_grammar, "start s\ns =\nt =\ns =\nt =")

    def test_start(self):
        self.refuses("InvalidText(0, 'start')", read_grammar, "start s")
        self.refuses("InvalidText(0, 'start')", read_grammar, "start s\nt = s\nss = -")

    def test_name(self):
        self.refuses("InvalidText(2, 'name')", read_grammar, "start s\ns = t 'a'\nt = s | - | 'b' u\nv = u")
        self.refuses("InvalidText(1, 'name')", read_grammar, "start s\ns = start")

    def test_body(self):
        self.refuses("InvalidText(2, 'body')", read_grammar, "start s\ns =" + " s" * 12 + "\nt = - |" + " 'a'" * 13)
        self.same(read_grammar("start s\ns =" + " s" * 12), (("s",), 0, ((0, (0,) * 12),)))

    def test_again(self):
        for line in ("s = - | -", "s = 'a' | 'b' | 'a'", "s = s 'a' | - | s 'a'"):
            self.refuses("InvalidText(1, 'again')", read_grammar, "start s\n" + line)
        self.same(read_grammar("start s\ns = 's' | s | 'a' 'b' | 'b' 'a'\nt = 's' | s"), (
            ("s", "t"), 0, ((0, ("s",)), (0, (0,)), (0, ("a", "b")), (0, ("b", "a")), (1, ("s",)), (1, (0,))),
        ))

    def test_the_first_one_first(self):
        long = " 'a'" * 13
        self.refuses("InvalidText(2, 'form')", read_grammar, "start x\ns = t | - | -\ns\ns =")
        self.refuses("InvalidText(2, 'twice')", read_grammar, f"start x\ns = t |{long}\ns = - | -\ns")
        self.refuses("InvalidText(0, 'start')", read_grammar, f"start x\ns = t |{long} | - | -")
        self.refuses("InvalidText(1, 'name')", read_grammar, f"start s\ns = - | - |{long} | t\nt1 = u")
        self.refuses("InvalidText(1, 'body')", read_grammar, f"start s\ns = - | - |{long}\nt = u")
        self.refuses("InvalidText(1, 'again')", read_grammar, f"start s\ns = - | -\nt = u |{long}")
        self.refuses("InvalidText(2, 'body')", read_grammar, f"start s\ns = -\nt ={long}\nv = u")

    def test_errors(self):
        for thing in ODD + (0, (), ("start s",), ["start s"], DEEP):
            if not isinstance(thing, str):
                self.refuses("NotUsable('text')", read_grammar, thing)
        self.same(read_grammar(text=grammar_lines(grammar=NEST)), NEST)
