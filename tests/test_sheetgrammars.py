"""[107], [118], (G14): grammars of sheets."""

import random

from stillends.grammars import lets_grammar
from stillends.listings import texts_upto
from stillends.members import in_grammar
from stillends.predicting import reads_one_way
from stillends.readings import read_tree
from stillends.sheetgrammars import form_grammar
from stillends.sheets import lets_sheet
from stillends.valuetexts import value_text
from tests.forms import FORMS, FORM_LETTERS, TooMany, sheet_texts, some_sheet
from tests.helpers import Case
from tests.test_sheets import EACH, NONE, TRUTH


def keys(first, many):
    """So many words of eight letters that begin unlike one another."""
    return [("abcdefghijklmnopqrstuvwxyz"[(first + k) % 24] + "longword")[:8] for k in range(many)]


class FormGrammarTest(Case):
    def grammar_of(self, sheet):
        grammar = form_grammar(sheet)
        lets_sheet(sheet)
        self.same(lets_grammar(grammar), len(grammar[2]))
        self.same(reads_one_way(grammar), True)
        return grammar

    def test_texts_by_lists(self):
        chance = random.Random(107)
        several = 0
        for _ in range(300):
            sheet = some_sheet(chance)
            grammar = self.grammar_of(sheet)
            try:
                texts = sheet_texts(sheet, 12)
            except TooMany:
                continue
            self.same(sorted(texts_upto(grammar, 12)), sorted(texts))
            several += len(texts) > 5
        self.assertGreater(several, 60)

    def test_each_form(self):
        for form in EACH:
            if form[0] != "of" and form != EACH[2]:
                grammar = self.grammar_of((form,))
                try:
                    texts = sheet_texts((form,), 9)
                except TooMany:
                    continue
                self.same(sorted(texts_upto(grammar, 9)), sorted(texts))

    def test_long_values(self):
        sheet = (("record", (("abcdefgh", ("list", ("text", FORM_LETTERS, 0, 8), 4, 6), True), ("b", ("whole", 8), False))),)
        grammar = self.grammar_of(sheet)
        for value in (
            (("abcdefgh", ["12345678"] * 6), ("b", -99999999)), (("abcdefgh", ["", "~", "' '", "a"]), ("b", 0)), (("abcdefgh", [""] * 4),),
        ):
            text = value_text(sheet, value)
            self.same((in_grammar(grammar, text), read_tree(grammar, text) is None), (True, False))
            for k in range(len(text)):
                self.same(in_grammar(grammar, text[:k]), False)
        for text in ('{"abcdefgh":["","",""]}', '{"abcdefgh":["","","","","","",""]}', '{"b":1}', '{"abcdefgh":["","","",""],"b":-0}'):
            self.same(in_grammar(grammar, text), False)

    def test_no_values(self):
        for sheet in ((("list", ("of", 0), 1, 2),), (("record", (("a", ("of", 0), True),)),), (("or", (("list", ("of", 0), 1, None),)),)):
            self.same(texts_upto(self.grammar_of(sheet), 20), ())
        # A part has none, the whole has some.
        sheet = (("or", (("list", ("of", 1), 0, 3), NONE)), ("list", ("of", 1), 1, None))
        self.same(texts_upto(self.grammar_of(sheet), 20), ("[]", "null"))
        sheet = (("record", (("a", ("of", 1), False), ("b", NONE, False))), ("list", ("of", 1), 1, None))
        self.same(texts_upto(self.grammar_of(sheet), 20), ("{}", '{"b":null}'))

    def test_endlessly_many_values(self):
        grammar = self.grammar_of(FORMS)
        inner = '{"ok":true}'
        for _ in range(40):
            inner = '{"n":' + inner + ',"ok":false}'
            self.same(in_grammar(grammar, inner), True)
        grammar = self.grammar_of((("list", ("of", 0), 0, None),))
        self.same([in_grammar(grammar, "[" * k + "]" * k) for k in (1, 600)], [True, True])

    def test_keys_and_words_that_begin_alike(self):
        words = ("a", "ab", "abc", "abd", "b", "ba", "c")
        sheet = (("record", tuple((word, ("one", words), word in ("abc", "ba")) for word in words[:6])),)
        grammar = self.grammar_of(sheet)
        text = value_text(sheet, (("a", "abc"), ("abc", "abd"), ("ba", "a")))
        self.same((in_grammar(grammar, text), in_grammar(grammar, text.replace('"ba"', '"b"'))), (True, False))
        for text in ('{"ba":"a","abc":"a"}', '{"abc":"a"}', '{"abc":"x","ba":"a"}', '{"abc":"a","ba":"a",}', '{,"abc":"a","ba":"a"}'):
            self.same(in_grammar(grammar, text), False)

    def test_large_sheets_keep_to_the_limits_of_a_grammar(self):
        def record(first, many, must):
            forms = (("of", 4), ("truth",), ("whole", 3), ("none",), ("list", ("of", 5), 0, None), ("of", 6))
            return ("record", tuple((key, form, must) for key, form in zip(keys(first, many), forms)))

        records = [record(6 * k, 6, k > 1) for k in range(4)]
        chance = random.Random(1071)
        some = [tuple(sorted(chance.sample(FORM_LETTERS, 60))) for _ in range(7)]
        nested = ("list", ("or", (NONE, ("list", ("text", FORM_LETTERS[:40], 0, 3), 0, None))), 0, None)
        for sheet in (
            tuple(records) + (("list", ("of", 0), 1, None), nested, ("or", (TRUTH, ("of", 1))), ("of", 2)),
            tuple(("or", (("text", FORM_LETTERS[3 * k :], 1, 2), ("list", ("of", (k + 1) % 8), 0, None))) for k in range(8)),
            (("list", ("of", 1), 0, None),) + tuple(("or", (("text", some[k], 2, 3), ("list", ("of", (k + 2) % 8), 0, 2))) for k in range(7)),
            tuple(("list", ("or", (("one", tuple(sorted(keys(3 * k, 3)))), ("list", ("of", (k + 1) % 8), 0, 3))), 0, None) for k in range(8)),
        ):
            grammar = self.grammar_of(sheet)
            self.assertLessEqual(len(grammar[0]), 60)
            self.assertLessEqual(len(grammar[2]), 400)

    def test_asked_again(self):
        self.same(form_grammar(sheet=FORMS), form_grammar(FORMS))
