"""[13]: what is a row hangs on how many tokens there are."""

from stillends.carelessrows import careless_choices
from stillends.cutweights import cut_share
from stillends.endings import ending
from stillends.masks import mask, settled
from stillends.needing import need, needs
from stillends.quickneeds import quick_need, quick_needs
from stillends.refusals import judge_why_not, why_not
from stillends.steering import Steered
from stillends.stepweights import row_pairs, step_weights
from stillends.surerules import sure_rules
from stillends.suretexts import sure_text
from stillends.tasks import is_good, letters_read
from stillends.totals import total
from stillends.walks import stood_at
from stillends.writers import even_writer
from tests.chances import REGULAR
from tests.helpers import Case

BY_ROW = (need, needs, ending, settled, quick_need, quick_needs, is_good, letters_read, careless_choices)
BY_ROW_AND_LEFT = (mask, why_not, stood_at, sure_text, sure_rules)
TOKENS = ("a", "b", "ab", "ba", "aa", "bb", "aab", "bba")


class RowParameterTest(Case):
    def check(self, many, call, before, *behind):
        """The last token is let, and the number behind it is none."""
        self.refuses("NotUsable('row')", call, *before, (many,), *behind)
        self.refuses("NotUsable('row')", call, *before, (0, many), *behind)
        call(*before, (many - 1,), *behind)
        call(*before, (0, many - 1), *behind)

    def test_as_many_tokens_as_there_are(self):
        for many in range(1, len(TOKENS) + 1):
            tokens = TOKENS[:many]
            task = (REGULAR, tokens, (1, (0,), ((0,) * many,)), "", "behind")
            writer = even_writer(tokens)
            for call in BY_ROW:
                self.check(many, call, (task,))
            for call in BY_ROW_AND_LEFT:
                self.check(many, call, (task,), 2)
            self.check(many, judge_why_not, (task,), 2, ())
            self.check(many, total, (task, writer), 2)
            for call in (step_weights, row_pairs, cut_share):
                self.check(many, call, (task, writer, 2))
            steered = Steered(task, writer, 2)
            self.check(many, steered.weights, ())
            self.check(many, steered.row_pairs, ())
