"""[109], [118]: texts of values, written and read."""

import random

from stillends.formvalues import fits
from stillends.valuetexts import text_value, value_text
from tests.forms import FORMS, FORM_LETTERS, TooMany, sheet_texts, some_sheet
from tests.helpers import BAD_TEXTS, DEEP, ODD, Case, texts_over
from tests.test_sheets import NONE, TRUTH

# A sheet with a form of each kind.
MIXED = (
    ("list", ("or", (("text", ("a", "b", " "), 0, 3), ("whole", 2), TRUTH, NONE, ("list", ("of", 0), 0, 1), ("of", 1))), 0, None),
    ("record", (("a", ("of", 0), False), ("b c", ("one", ("x", "~")), True))),
)
VALUES = (
    ([], "[]"), ([[]], "[[]]"), ([[[]]], "[[[]]]"), (["", "a b", -10, 0, True, False, None], '["","a b",-10,0,true,false,null]'),
    ([(("b c", "x"),)], '[{"b c":"x"}]'), ([(("a", [1]), ("b c", "~")), 99], '[{"a":[1],"b c":"~"},99]'), ([()], None), ((), None),
    ([100], None), (["abab"], None), ([["a"]], None), ([[[], []]], None),
)
SPOILT = (
    "", " ", "[", "]", "[]]", "[[]", "[,]", "[null,]", "[,null]", "[null null]", "[null ,null]", "[ null]", "[null]x", "[nul]", "[nulll]",
    "[True]", "[01]", "[-0]", "[+1]", "[1.0]", "[1e1]", "[--1]", "[-]", "[100]", '["a]', '[a"]', '["c"]', '["aaaa"]', "{}", "[{}]",
    '[{"a":[]}]', '[{"b c":"x","a":[]}]', '[{"b c":"x",}]', '[{"b c":x}]', '[{"b c" :"x"}]', '[{"b c": "x"}]', '[{b c:"x"}]', '[{"b c":"x"]',
    '[{"b c":"x"},{"b c":"x"}', '[{"b c":"x","b c":"x"}]', '[{"b c"}]', '[{:"x"}]', "[truefalse]", "null", "[[[[]]]", "['a']", "[1,2,]", "]",
)


class ValueTextTest(Case):
    def test_there_and_back(self):
        chance = random.Random(109)
        seen = 0
        for _ in range(300):
            sheet = some_sheet(chance)
            try:
                texts = sheet_texts(sheet, 16)
            except TooMany:
                continue
            for text, value in chance.sample(list(texts.items()), min(10, len(texts))):
                self.same(value_text(sheet, value), text)
                self.same(text_value(sheet, text), value)
                seen += 1
                spoilt = spoil(chance, text)
                if len(spoilt) < 17 and spoilt not in texts:
                    self.refuses("NoValue", text_value, sheet, spoilt)
        self.assertGreater(seen, 700)

    def test_all_short_texts(self):
        for sheet in ((("list", ("or", (("whole", 1), ("of", 0))), 0, 2),), (("or", (("whole", 2), ("list", ("of", 0), 0, None))),)):
            texts = sheet_texts(sheet, 4)
            for text in texts_over("[]01,-", 4):
                if text in texts:
                    self.same(text_value(sheet, text), texts[text])
                else:
                    self.refuses("NoValue", text_value, sheet, text)

    def test_example(self):
        self.same(value_text(FORMS, (("n", (("ok", True),)), ("ok", False))), '{"n":{"ok":true},"ok":false}')
        self.refuses("NoValue", text_value, (("whole", 2),), "-0")

    def test_each_kind(self):
        for value, text in VALUES:
            if text is None:
                self.refuses("NoValue", value_text, MIXED, value)
            else:
                self.same((value_text(MIXED, value), text_value(MIXED, text)), (text, value))
        for text in SPOILT:
            self.refuses("NoValue", text_value, MIXED, text)

    def test_no_value(self):
        for value in ODD + (0, "", "a", (), DEEP, 10**59):
            if not isinstance(value, list):
                self.refuses("NoValue", value_text, MIXED, value)
            self.refuses("NoValue", value_text, (("list", ("of", 0), 1, None),), value)
        for value in (True, 1, (("ok", 1),), [("ok", True)], (["ok", True],), (("ok", True), ("n", (("ok", True),)))):
            self.refuses("NoValue", value_text, FORMS, value)
        self.refuses("NoValue", text_value, (("list", ("of", 0), 1, None),), "[]")

    def test_kinds_are_told_apart(self):
        sheet = (("or", (("whole", 1), TRUTH, NONE, ("one", ("1", "null", "true")), ("list", NONE, 0, 0), ("record", ()))),)
        pairs = ((1, "1"), (True, "true"), (None, "null"), ("1", '"1"'), ("true", '"true"'), ("null", '"null"'), ([], "[]"), ((), "{}"))
        for value, text in pairs:
            self.same((value_text(sheet, value), text_value(sheet, text)), (text, value))

    def test_deep_and_long_values(self):
        sheet = (("list", ("of", 0), 0, None),)
        for many in (1, 30, 600):
            value = text_value(sheet, "[" * many + "]" * many)
            self.same(value_text(sheet, value), "[" * many + "]" * many)
        for spoilt in ("[" * 600, "]" * 600, "[" * 600 + "]" * 599, "[" * 599 + "]" * 600):
            self.refuses("NoValue", text_value, sheet, spoilt)
        sheet = (("list", ("text", FORM_LETTERS, 0, 8), 0, None),)
        value = ["".join(FORM_LETTERS[k : k + 8]) for k in range(92)]
        self.same(text_value(sheet, value_text(sheet, value)), value)
        # Texts that are written may have more letters than those that are read.
        self.same(len(value_text(sheet, ["abcdefgh"] * 4000)), 4000 * 11 + 1)
        self.same(text_value((("record", (("n", ("of", 0), False),)),), '{"n":' * 150 + "{}" + "}" * 150)[0][0], "n")

    def test_whole_numbers(self):
        for figures in (1, 8):
            sheet = (("whole", figures),)
            for value in (0, 1, -1, 10**figures - 1, 1 - 10**figures):
                self.same(text_value(sheet, str(value)), value)
            for text in (str(10**figures), str(-(10**figures)), "00", "-00", "01", "-01", "", "-", "1-", "1 ", " 1", "0x1", "1_0"):
                self.refuses("NoValue", text_value, sheet, text)

    def test_lists_are_new(self):
        sheet = (("list", ("list", NONE, 0, 1), 0, 2),)
        one, two = text_value(sheet, "[[],[null]]"), text_value(sheet, "[[],[null]]")
        one[1].append(None)
        one.append(None)
        self.same(two, [[], [None]])
        given = [[None]]
        self.same((value_text(sheet, given), fits(sheet, given), given), ("[[null]]", True, [[None]]))

    def test_errors(self):
        self.refuses_all("NotUsable('text')", text_value, (FORMS,), BAD_TEXTS)
        self.same(value_text(value=[], sheet=MIXED), "[]")
        self.same(text_value(text="[]", sheet=MIXED), [])


def spoil(chance, text):
    """The text with one letter left out, put in or changed."""
    at = chance.randint(0, len(text))
    return text[:at] + chance.choice(("", "1", ",", '"', "]", " ", "-", "a")) + text[at + chance.randint(0, 1) :]
