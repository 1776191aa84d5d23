"""[110], [11]: patterns."""

import random
import re

from stillends.patterns import lets_pattern, matches
from tests.helpers import BAD_TEXTS, DEEP, ODD, Case, texts_over

A, B = ("letter", "a"), ("letter", "b")
WRONG = ODD + (
    (), 0, "", "a", "ab", ("letter",), ("letter", ""), ("letter", "ab"), ("letter", "%"), ("letter", "\n"), ("letter", 0), ("letter", "a", "b"),
    ("letter", ("a",)), ["letter", "a"], ("any", ()), ("any", "a"), ("any", ["a"]), ("any", ("b", "a")), ("any", ("a", "a")), ("any", ("ab",)),
    ("any", ("%",)), ("any", (1,)), ("any", None), ("row",), ("row", None), ("row", [A]), ("row", A), ("row", (A, None)), ("row", ("a",)), ("or", ()),
    ("or", [A]), ("or", A), ("or", (A, ("or", ()))), ("star",), ("star", None), ("star", (A,)), ("star", A, A), ("plus", ()), ("maybe", "a"),
    ("Star", A), ("not", A), (None, A), (A, "star"), ("star", ("star", ("star", ("letter", "")))), DEEP,
)


def some_pattern(chance, depth):
    word = chance.choice(["letter", "any"] + ["row", "or", "star", "plus", "maybe"] * (2 if depth > 1 else 0))
    if word == "letter":
        return (word, chance.choice("ab."))
    if word == "any":
        return (word, tuple(sorted(chance.sample("ab.", chance.randint(1, 3)))))
    if word == "row":
        return (word, tuple(some_pattern(chance, depth - 1) for _ in range(chance.randint(0, 3))))
    if word == "or":
        return (word, tuple(some_pattern(chance, depth - 1) for _ in range(chance.randint(1, 3))))
    return (word, some_pattern(chance, depth - 1))


def texts_of(pattern, most):
    """The set of the texts with at most so many letters that the pattern matches, by the definition."""
    word, part = pattern
    if word in ("letter", "any"):
        return {letter for letter in part if most}
    if word == "or":
        return {text for inner in part for text in texts_of(inner, most)}
    if word == "row":
        found = {""}
        for inner in part:
            found = {one + other for one in found for other in texts_of(inner, most) if len(one + other) <= most}
        return found
    once = texts_of(part, most)
    found = {""} if word != "plus" else set()
    while True:
        more = found | once if word == "maybe" else found | once | {
            one + other for one in found for other in once if len(one + other) <= most
        }
        if more == found:
            return found
        found = more


def count_of(pattern):
    word, part = pattern
    inner = part if word in ("row", "or") else (part,) if word in ("star", "plus", "maybe") else ()
    return 1 + sum(map(count_of, inner))


class LetsPatternTest(Case):
    def test_patterns(self):
        chance = random.Random(110)
        for _ in range(300):
            pattern = some_pattern(chance, 5)
            self.same(lets_pattern(pattern), count_of(pattern))
        for pattern, many in ((A, 1), (("any", ("a", "b")), 1), (("row", ()), 1), (("star", ("plus", ("maybe", A))), 4), (("or", (A, A, A)), 4)):
            self.same(lets_pattern(pattern), many)

    def test_example(self):
        self.same(lets_pattern(("row", (("maybe", ("letter", "a")), ("letter", "b")))), 4)

    def test_limits_do_not_count(self):
        self.same(lets_pattern(("row", (A,) * 6000)), 6001)
        deep = A
        for _ in range(28):
            deep = ("star", deep)
        self.same(lets_pattern(deep), 29)

    def test_no_patterns(self):
        for thing in WRONG:
            for inside in (thing, ("star", thing), ("row", (A, thing)), ("or", (("maybe", thing),))):
                self.refuses("InvalidPaper('shape', -1)", lets_pattern, inside)


class MatchesTest(Case):
    def test_all_short_texts(self):
        chance = random.Random(1101)
        texts = texts_over("ab.", 4)
        for _ in range(200):
            pattern = some_pattern(chance, 4)
            expected = texts_of(pattern, 4)
            self.same([text for text in texts if matches(pattern, text)], [text for text in texts if text in expected])

    def test_the_empty_text(self):
        for pattern, taken in (
            (("row", ()), True), (A, False), (("any", ("a",)), False), (("star", A), True), (("plus", A), False), (("maybe", A), True),
            (("plus", ("maybe", A)), True), (("or", (A, ("row", ()))), True), (("row", (("star", A), ("maybe", B))), True), (("row", (("star", A), B)), False),
        ):
            self.same((matches(pattern, ""), matches(pattern, "c")), (taken, False))
        self.same((matches(("row", ()), "a"), matches(("row", (("row", ()), A)), "a")), (False, True))

    def test_long_texts_and_deep_patterns(self):
        doubled = ("star", ("or", (("star", A), ("plus", ("maybe", B)), ("row", (("star", A), ("star", B))))))
        self.same((matches(doubled, "ab" * 600), matches(doubled, "ab" * 599 + "c")), (True, False))
        deep = ("any", ("a", "b"))
        for k in range(7):
            deep = ("plus", deep) if k % 2 else ("maybe", deep)
        self.same((matches(deep, "ab" * 600), matches(deep, "")), (True, True))
        wide = ("row", (("maybe", A),) * 19)
        self.same([matches(wide, "a" * many) for many in (0, 19, 20)], [True, True, False])

    def test_letters_of_all_kinds(self):
        letters = [chr(code) for code in range(32, 127) if chr(code) != "%"]
        for letter in letters:
            self.same((matches(("letter", letter), letter), matches(("any", tuple(letters)), letter)), (True, True))
        self.same(matches(("letter", "a"), "A"), False)

    def test_as_python_matches(self):
        chance = random.Random(1102)
        word = ("plus", ("any", tuple("abc")))
        pattern = ("row", (word, ("star", ("row", (("letter", "."), word)))))
        for _ in range(300):
            text = "".join(chance.choice("abc..") for _ in range(chance.randint(0, 12)))
            self.same(matches(pattern, text), re.fullmatch(r"[abc]+(\.[abc]+)*", text) is not None)

    def test_errors(self):
        self.refuses_all("NotUsable('text')", matches, (A,), BAD_TEXTS)
