"""The examples of DOC.md, as they stand in the sections that have landed."""

import unittest

from stillends.besttapes import likeliest
from stillends.books import free_book, lets_book, runs, takes
from stillends.canon import canon_book, longest_row
from stillends.carelessrows import careless, careless_choices
from stillends.carries import carry
from stillends.ceilings import judge_likeliest
from stillends.chains import chained
from stillends.closedlists import closed_list, items_of
from stillends.commands import play
from stillends.couples import couple, kept
from stillends.cutweights import cut_same, cut_share
from stillends.distances import distance
from stillends.drafts import Drafted
from stillends.endings import ending
from stillends.errors import StillError
from stillends.faults import fault, mask_custom, safe_customs
from stillends.firsts import first_letters
from stillends.firsttrees import own_tape
from stillends.floors import cut_table, floor_holds
from stillends.follows import follow_letters
from stillends.formvalues import count_values, fits
from stillends.goodpairs import is_good_pair
from stillends.grammars import lets_grammar
from stillends.grammartexts import grammar_lines, read_grammar
from stillends.guides import Guide
from stillends.insides import inside
from stillends.judges import judge
from stillends.leastways import least_way, way_price
from stillends.letters import END, is_letter, is_number, is_text
from stillends.libraries import Library
from stillends.listings import texts_upto
from stillends.longestrows import longest
from stillends.lostrows import lost_within
from stillends.machines import lets_machine, text_price
from stillends.masks import mask, settled
from stillends.meankept import mean_kept
from stillends.meanlengths import mean_length
from stillends.meets import least_three, prices
from stillends.members import begins, in_grammar, spans_of
from stillends.needing import need, needs
from stillends.nextletters import next_letters, sure_beginning
from stillends.nulls import first_looped, least_letters, nullable_names
from stillends.onerow import one_row
from stillends.pairbooks import pairs_book
from stillends.pairnumbers import nth_pair, rank_pair
from stillends.patternmachines import first_parted, pattern_grammar, pattern_machine
from stillends.patterns import lets_pattern, matches
from stillends.plainruns import PlainRun
from stillends.predicting import first_clash, predicts, reads_one_way
from stillends.quickneeds import quick_need, quick_needs
from stillends.ranks import empty_sizes, left_ranks
from stillends.readers import Reader
from stillends.readings import read_tree
from stillends.refusals import judge_why_not, why_not
from stillends.respells import rows_of
from stillends.setmachines import machine_of
from stillends.sheetgrammars import form_grammar
from stillends.sheets import first_signs, lets_sheet
from stillends.shortest import shortest_taken, shortest_text
from stillends.sparing import needless
from stillends.spelledall import spelled_all
from stillends.spellers import place_behind, priced, speller
from stillends.stands import may_end, push_letter, stand_behind
from stillends.steering import Steered
from stillends.stepweights import row_pairs, step_weights
from stillends.surerules import sure_rules
from stillends.suretexts import sure_text
from stillends.tapes import choice_of, says, tapes_of
from stillends.tasks import is_good, letters_read, lets_task
from stillends.tokenlists import is_row, lets_tokens, row_text
from stillends.tokentexts import book_lines, read_book, read_tokens, token_lines
from stillends.totals import total
from stillends.treecounts import count_trees
from stillends.treenumbers import nth_tree, rank_tree
from stillends.trees import grafted, is_of_grammar, kids, lets_tree
from stillends.treetexts import spans, tree_text
from stillends.tries import inner_texts, token_number
from stillends.usefulness import least_tree, useful_parts
from stillends.valuetexts import text_value, value_text
from stillends.vectors import stand_vector
from stillends.walks import stood_at
from stillends.weightrows import lets_weights
from stillends.writers import even_writer, lets_writer, state_behind
from tests.helpers import told

EXAMPLES = """
    >>> NEST = (("s",), 0, ((0, ()), (0, ("a", 0, "b"))))
    >>> CUTS = ("a", "b", "ab")
    >>> LONE = ("a", "ab")
    >>> FREE = (1, (0,), ((0, 0, 0),))
    >>> FREE2 = (1, (0,), ((0, 0),))
    >>> EVEN = (4, ((1, 1, 1, 1),), ((0, 0, 0),))
    >>> is_letter("ab"), is_text(""), is_number(True)
    (False, True, False)
    >>> lets_tokens(("a", "", "a"))
    raises InvalidPaper('text', 1)
    >>> row_text(CUTS, (2, 0, 1)), is_row(CUTS, (0, True))
    ('abab', False)
    >>> inner_texts(CUTS), token_number(CUTS, "ba")
    (('', 'a'), -1)
    >>> runs(LONE, (2, (1,), ((1, -1), (0, 1))), (0, 1)), takes(LONE, FREE2, ())
    (1, True)
    >>> pairs_book(CUTS, ((2, 2), (0, 1), (2, 2)))
    (3, (0, 1, 2), ((1, 0, 2), (1, -1, 2), (1, 0, -1)))
    >>> longest_row(CUTS, "aab"), longest_row(("a", "ab", "bc"), "abc")
    ((0, 2), None)
    >>> canon_book(CUTS)
    (2, (0, 1), ((1, 0, 0), (1, -1, 0)))
    >>> even_writer(LONE)
    (3, ((1, 1, 1),), ((0, 0),))
    >>> choice_of(LONE, (3, ((1, 0, 2),), ((0, 0),)), 0, 1)
    -1
    >>> says(CUTS, EVEN, (2, 3, 0)), tapes_of(CUTS, EVEN, (2,), 2)
    (((2,), True, 2), 4)
    >>> speller(("ab",), (1, (0,), ((0,),)), "a", "healed")
    (((0, 0, ''), (1, 0, ''), (1, 0, 'a')), (1,), ((0, 'a', 2, -1), (1, 'a', 2, -1), (2, 'b', 1, 0)))
    >>> place_behind(CUTS, FREE, "ab", "healed", (0,)), place_behind(CUTS, FREE, "ab", "healed", (1,))
    ((1, 0, ''), None)
    >>> priced(LONE, FREE2, "b", "behind")
    (3, ((0, 'b', 1, 0), (1, 'a', 1, 1), (1, 'a', 2, 0), (2, 'b', 1, 1)))
    >>> lets_grammar((("s",), 0, ((0, ("a",)), (0, (False,)))))
    raises InvalidPaper('body', 1)
    >>> PAIRS = (("s", "x"), 0, ((0, (1, 1)), (1, ()), (1, ("a",))))
    >>> kids(PAIRS, (0, 1, 2))
    ((1,), (2,))
    >>> grafted(PAIRS, 0, ((2,), (1,)))
    (0, 2, 1)
    >>> spans(PAIRS, (0, 1, 2))
    ((0, 1), (0, 0), (0, 1))
    >>> PART = (("s", "t", "u"), 0, ((0, (1,)), (0, ("a", 2)), (1, ("b",)), (1, (1, "c"))))
    >>> useful_parts(PART)
    ((0, 1), (0, 2, 3))
    >>> least_tree(PART, 0)
    (0, 2)
    >>> RING = (("s",), 0, ((0, ()), (0, ("a",)), (0, (0, 0))))
    >>> first_looped(RING)
    0
    >>> least_letters(PART)
    (1, 1, None)
    >>> begins(NEST, "aab")
    True
    >>> spans_of(NEST, "ab")
    ((0, 0, 0), (0, 0, 2), (1, 0, 1), (2, 0, 2))
    >>> texts_upto(NEST, 5)
    ('', 'ab', 'aabb')
    >>> count_trees(PAIRS, "a")
    2
    >>> count_trees(RING, "b")
    raises Looped(0)
    >>> nth_tree(PAIRS, "a", 1)
    (0, 2, 1)
    >>> rank_tree(PAIRS, (0, 2, 1))
    1
    >>> ROAD = (2, ((0, "a", 0, 1), (0, "b", 1, 0), (1, "b", 0, 3), (1, "b", 1, 1)))
    >>> lets_machine(ROAD)
    2
    >>> text_price(ROAD, 0, 0, "aabb")
    5
    >>> prices(NEST, ROAD)
    ((0, 0, 0, 0), (0, 0, 1, 1), (1, 0, 1, 0))
    >>> least_three(NEST, ROAD, 0, 0, 1)
    (1, 2, 2)
    >>> least_way(NEST, ROAD, 0, 0, 1)
    ((1, 0), (0, 0, 1))
    >>> way_price(NEST, ROAD, 0, 0, 1, ((1, 1, 0), (0, 0, 0, 1, 1)))
    3
    >>> floor_holds(NEST, ROAD, ((0, 0, 0, 0), (0, 0, 1, 2), (1, 0, 1, 0)))
    False
    >>> cut_table(((0, 0, 1, 7), (0, 0, 0, -2)), 3)
    ((0, 0, 1, 3), (0, 0, 0, -2))
    >>> items_of(NEST, ROAD)
    ((0, 0, 0), (0, 0, 1), (1, 0, 1))
    >>> closed_list(NEST, ROAD, ((0, 0, 0), (1, 0, 1)))
    False
    >>> chained((1, ((0, "a", 0, 1),)), 0, "ab")
    ((3, ((0, 'a', 0, 1), (1, 'a', 2, 0), (2, 'b', 0, 0))), 1)
    >>> shortest_text(NEST)
    ('', (0,))
    >>> shortest_taken(NEST, ROAD, 0, (1,))
    ('ab', (1, 0))
    >>> TASK = (NEST, CUTS, FREE, "", "behind")
    >>> inside(TASK, EVEN, 2)
    ((0, 0, 0, 0, 0, 0, 1), (0, 0, 0, 0, 0, 1, 1), (0, 0, 0, 0, 0, 2, 1), (1, 0, 0, 1, 0, 0, 1))
    >>> is_good(TASK, (0, 1)), is_good(TASK, (0, 2))
    (True, False)
    >>> letters_read((NEST, CUTS, FREE, "a", "behind"), (1,))
    'ab'
    >>> need(TASK, (0,)), needs(TASK, (0,)), needs(TASK, (1,))
    (1, (2, 0, 1), (None, None, None))
    >>> needs((NEST, CUTS, FREE, "a", "healed"), ())
    (1, None, 0)
    >>> mask(TASK, (0,), 2), mask(TASK, (0,), 0), settled(TASK, (0,))
    (((1, 2), False), ((), False), 3)
    >>> ending(TASK, (0, 0)), ending(TASK, (0, 1)), ending(TASK, (1,))
    (((1, 1), (1, 1, 0)), ((), (1, 0)), None)
    >>> rows_of(TASK, "ab"), rows_of(TASK, "a"), rows_of(TASK, "")
    (((2,), (0, 1)), (), ((),))
    >>> why_not(TASK, (0,), 1), judge_why_not(TASK, (0,), 0, why_not(TASK, (0,), 0))
    (None, True)
    >>> why_not((NEST, CUTS, FREE, "a", "healed"), (1,), 3)
    ()
    >>> stood_at(TASK, (0,), 2), stood_at(TASK, (0,), 1), stood_at(TASK, (0,), 0)
    (('', 'a'), ('',), ())
    >>> run = PlainRun(TASK, 2)
    >>> run.write(0)
    >>> run.choices(), run.looked()
    (((1,), False), ('',))
    >>> run.write(True)
    raises NotLet(True)
    >>> run.write(1)
    >>> run.write(-1)
    >>> run.text(), run.tree(), run.choices()
    ('ab', (1, 0), ((), False))
    >>> fault(TASK, 1, (((), (0, 2)),)), fault(TASK, 1, (((2,), (-1,)), ((), (2,))))
    (('stuck', (0,)), ('loses', ()))
    >>> mask_custom(TASK, 1), safe_customs(TASK, 1)
    ((((), (-1, 2)), ((2,), (-1,))), 3)
    >>> FORK = (("s", "t", "u"), 0, ((0, (1, "c")), (1, ()), (1, ("a", 1, "b")), (2, (2,))))
    >>> first_letters(FORK)
    (('a', 'c'), ('a',), ())
    >>> follow_letters(FORK)
    (('',), ('b', 'c'), ())
    >>> predicts(FORK)
    (('a', 'c'), ('b', 'c'), ('a',), ())
    >>> first_clash((("s", "t"), 0, ((0, ()), (0, (1,)), (1, ()))))
    (0, 0, 1, '')
    >>> reads_one_way(FORK)
    True
    >>> left_ranks(FORK), empty_sizes(FORK)
    ((1, 0, None), (None, 1, None))
    >>> empty_sizes((("s", "t"), 0, ((0, (1, 1)), (1, ()))))
    (3, 1)
    >>> left_ranks((("s",), 0, ((0, ()), (0, (0, "a")))))
    raises NotOneWay(0, 0, 1, 'a')
    >>> stand_behind(NEST, "aa"), stand_behind(NEST, "aba")
    ((0, 'b', 'b'), None)
    >>> push_letter(NEST, (0, "b"), "b"), push_letter(NEST, ("b", 0), "a")
    ((), None)
    >>> may_end(NEST, (0, 0)), may_end(NEST, (0, "b"))
    (True, False)
    >>> next_letters(NEST, ""), next_letters(NEST, "aab"), next_letters(NEST, "ba")
    ((('a',), True), (('b',), False), ((), False))
    >>> sure_beginning(NEST, "abab"), sure_beginning(NEST, "ba")
    (2, 0)
    >>> read_tree(NEST, "aabb"), read_tree(NEST, "aab")
    ((1, 1, 0), None)
    >>> r = Reader(NEST)
    >>> r.push("a"), r.push("b"), r.push("a")
    (True, True, False)
    >>> r.text(), r.stand(), r.rules(), r.end()
    ('ab', (), (1, 0), (1, 0))
    >>> stand_vector(TASK, (0,)), stand_vector(TASK, (0, "b"))
    ((0, None), (1, 1))
    >>> quick_need(TASK, (0,)), quick_needs(TASK, ())
    (1, (1, None, 0))
    >>> sure_text(TASK, (0,), 1), sure_text(TASK, (0,), 2)
    ('b', '')
    >>> sure_text((NEST, CUTS, FREE, "a", "healed"), (), 1)
    'ab'
    >>> sure_rules(TASK, (0,), 1), sure_rules(TASK, (0,), 2), sure_rules(TASK, (), 0)
    ((0,), (), (0,))
    >>> run = Guide(TASK).run(2)
    >>> run.choices(), run.looked()
    (((0, 2), True), ('', 'a'))
    >>> run.write(0)
    >>> run.choices(), run.rules(), run.sure_text(), run.sure_rules()
    (((1,), False), (1,), 'b', (0,))
    >>> run = Guide((NEST, CUTS, FREE, "a", "healed")).run(1)
    >>> run.text(), run.row(), run.rules(), run.choices()
    ('a', (), (), ((2,), False))
    >>> run.write(2)
    >>> run.write(-1)
    >>> run.ended(), run.rules(), run.tree(), run.sure_rules()
    (True, (1, 0), (1, 0), ())
    >>> run.back(1)
    >>> run.ended(), run.choices()
    (False, ((), True))
    >>> run = Guide(TASK).run(2)
    >>> run.write(0)
    >>> carry(run, NEST, ("bb", "b"), FREE2).choices()
    ((1,), False)
    >>> carry(run, NEST, LONE, FREE2)
    raises NoEnding
    >>> is_good_pair(TASK, EVEN, 1, ((2, 3), (1, 0))), is_good_pair(TASK, EVEN, 1, ((2, 0), (1, 0)))
    (True, False)
    >>> total(TASK, EVEN, (), 1), total(TASK, EVEN, (0,), 1), total(TASK, EVEN, (1,), 1)
    (5, 1, 0)
    >>> step_weights(TASK, EVEN, 1, ()), row_pairs(TASK, EVEN, 1, (2,))
    ((0, 0, 1, 4), 1)
    >>> step_weights(TASK, EVEN, 2, (0,))
    (0, 1, 0, 0)
    >>> nth_pair(TASK, EVEN, 1, 0), rank_pair(TASK, EVEN, 1, (3, 2), (0,))
    (((2, 3), (1, 0)), 3)
    >>> nth_pair(TASK, EVEN, 1, 5)
    raises NotUsable('k')
    >>> TWICE = (("s", "x"), 0, ((0, ("a",)), (0, (1,)), (1, ("a",))))
    >>> ONE = (TWICE, ("a",), (1, (0,), ((0,),)), "", "behind")
    >>> own_tape(ONE, (2, ((1, 1),), ((0,),)), 1, 0), own_tape(ONE, (2, ((1, 1),), ((0,),)), 1, 1)
    ((0, 1), None)
    >>> TASK = (NEST, CUTS, FREE, "", "behind")
    >>> mean_length(TASK, EVEN, 1)
    (1, 5)
    >>> mean_length(TASK, (1, ((1, 0, 0, 0),), ((0, 0, 0),)), 2)
    raises NoTape
    >>> likeliest(TASK, EVEN, 1)[:2]
    ((), 4)
    >>> judge_likeliest(TASK, EVEN, 0, ((), 1, ((1, 0, 0, 1, 0, 0, 1), (0, 0, 0, 0, 0, 0, 1))))
    True
    >>> judge_likeliest(TASK, EVEN, 0, ((), 1, ((0, 0, 0, 0, 0, 0, 1),)))
    False
    >>> steered = Steered(TASK, EVEN, 1)
    >>> steered.total(), steered.weights(()), steered.nth(4)
    (5, (0, 0, 1, 4), ((3, 3), (0,)))
    >>> LOW = (NEST, LONE, FREE2, "", "behind")
    >>> machine_of(LOW, "spelled")
    ((3, ((0, 'a', 1, 1), (0, 'b', 2, 1), (1, 'a', 1, 1), (1, 'b', 0, 1), (2, 'a', 2, 1), (2, 'b', 2, 1))), (2,))
    >>> spelled_all(LOW)[:2]
    ('none', 'aabb')
    >>> told = one_row(TASK)
    >>> told[:2], sorted(told[2:4])
    (('two', 'ab'), [(0, 1), (2,)])
    >>> needless(TASK, (2,))[0], needless(TASK, (1,))[:2]
    ('needless', ('needed', 'aabb'))
    >>> careless_choices(LOW, ()), careless_choices(LOW, (0,))
    ((-1, 0, 1), (0, 1))
    >>> careless(LOW)[:2], careless(TASK)[0]
    (('lost', (0,)), 'never')
    >>> lost_within(LOW, 3), lost_within(TASK, 2)
    ((0,), None)
    >>> longest((PAIRS, CUTS, FREE, "", "healed"))[:2]
    ('most', (0, 0))
    >>> judge(TASK, "longest", ("endless", ((-1,), (1, -1), (0,))))
    True
    >>> lets_weights((0, 2, True))
    raises InvalidPaper('number', 2)
    >>> couple((3, 1), (1, 1), 5), couple((3, 1), (1, 1), 6), kept((3, 1), (1, 1))
    ((1, 1), (1, 0), 6)
    >>> mean_kept(TASK, EVEN, 1, EVEN)
    (1, 2)
    >>> d = Drafted(TASK, EVEN, 1, EVEN)
    >>> d.total(), d.propose(12), d.row(), d.total()
    (20, (2, 2), (2,), 4)
    >>> d.propose(0), d.ended(), d.total()
    ((0, -1), True, 0)
    >>> cut_share(TASK, EVEN, 1, (2,)), cut_same(TASK, EVEN, 1)
    ((1, 2), ('unlike', ()))
    >>> distance(TASK, EVEN, 1)
    (3, 10)
    >>> lets_sheet((("or", (("of", 1),)), ("of", 1)))
    raises InvalidPaper('round', 1)
    >>> FORMS = (("record", (("n", ("of", 0), False), ("ok", ("truth",), True))),)
    >>> fits(FORMS, (("ok", 1),)), count_values(FORMS), count_values((("list", ("of", 0), 1, 2),))
    (False, None, 0)
    >>> value_text(FORMS, (("n", (("ok", True),)), ("ok", False)))
    '{"n":{"ok":true},"ok":false}'
    >>> text_value((("whole", 2),), "-0")
    raises NoValue
    >>> lets_pattern(("row", (("maybe", ("letter", "a")), ("letter", "b"))))
    4
    >>> pattern_machine(("plus", ("or", (("letter", "b"), ("row", (("letter", "a"), ("letter", "b")))))))
    (3, (2,), ((0, 'a', 1), (0, 'b', 2), (1, 'b', 2), (2, 'a', 1), (2, 'b', 2)))
    >>> first_parted(("star", ("letter", "a")), ("maybe", ("letter", "a")))
    'aa'
    >>> grammar_lines(NEST)
    "start s\\ns = - | 'a' s 'b'"
    >>> book_lines(CUTS, (2, (), ((1, -1, 0), (0, 0, 0))))
    '2:\\n1 -1 0\\n0 0 0'
    >>> house = Library()
    >>> house.put("task", "t", TASK)
    >>> play(house, "need t 0\\nmask t 2 -\\nrun t 2 2,-1\\nneed u -\\nneed t  -")
    ('need 1', 'mask 0,2,-1', 'ended 2', 'refused NoSuch', 'unknown')
"""


def shown(line, names):
    """What the document shows for a line: the value, or the error."""
    try:
        return repr(eval(line, names))
    except StillError as error:
        return f"raises {told(error)}"


class ExamplesTest(unittest.TestCase):
    def test_examples(self):
        names = dict(globals())
        lines = [line.strip() for line in EXAMPLES.strip().split("\n")]
        for k, line in enumerate(lines):
            if line.startswith(">>> ") and (k + 1 == len(lines) or lines[k + 1].startswith(">>> ")):
                exec(line[4:], names)
            elif line.startswith(">>> "):
                self.assertEqual(shown(line[4:], names), lines[k + 1], line)

    def test_all_names_of_the_interface_are_there(self):
        self.assertEqual(END, -1)
        self.assertEqual((lets_book((), (1, (), ((),))), free_book(("a",))), (1, (1, (0,), ((0,),))))
        self.assertEqual(lets_writer(("a",), even_writer(("a",))), 1)
        self.assertEqual(state_behind(("a",), even_writer(("a",)), (0,)), 0)
        self.assertEqual(lets_tree((("s",), 0, ((0, ()),)), (0,)), 0)
        self.assertTrue(is_of_grammar((("s",), 0, ((0, ()),)), (0,)))
        self.assertEqual(tree_text((("s",), 0, ((0, ("a",)),)), (0,)), "a")
        self.assertEqual(nullable_names((("s",), 0, ((0, ()),))), (0,))
        self.assertTrue(in_grammar((("s",), 0, ((0, ()),)), ""))
        self.assertEqual(lets_task(((("s",), 0, ()), ("a",), free_book(("a",)), "", "behind")), 1)
        self.assertEqual(first_signs((("none",),), 0), ("n",))
        self.assertEqual(form_grammar((("list", ("of", 0), 1, 2),))[2], ())
        self.assertTrue(matches(("row", ()), ""))
        self.assertEqual(pattern_grammar(("row", ())), (("q0",), 0, ((0, ()),)))
        self.assertEqual(read_grammar("start s\ns ="), (("s",), 0, ()))
        self.assertEqual(read_tokens(token_lines(("a", "b"))), ("a", "b"))
        self.assertEqual(read_book(("a",), "1:\n0"), (1, (), ((0,),)))
