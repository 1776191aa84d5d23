"""The examples of DOC.md, as they stand in the sections that have landed."""

import unittest

from stillends.books import free_book, lets_book, runs, takes
from stillends.canon import canon_book, longest_row
from stillends.chains import chained
from stillends.closedlists import closed_list, items_of
from stillends.errors import StillError
from stillends.floors import cut_table, floor_holds
from stillends.grammars import lets_grammar
from stillends.insides import inside
from stillends.leastways import least_way, way_price
from stillends.letters import END, is_letter, is_number, is_text
from stillends.listings import texts_upto
from stillends.machines import lets_machine, text_price
from stillends.meets import least_three, prices
from stillends.members import begins, in_grammar, spans_of
from stillends.nulls import first_looped, least_letters, nullable_names
from stillends.pairbooks import pairs_book
from stillends.shortest import shortest_taken, shortest_text
from stillends.spellers import place_behind, priced, speller
from stillends.tapes import choice_of, says, tapes_of
from stillends.tasks import is_good, letters_read, lets_task
from stillends.tokenlists import is_row, lets_tokens, row_text
from stillends.treecounts import count_trees
from stillends.treenumbers import nth_tree, rank_tree
from stillends.trees import grafted, is_of_grammar, kids, lets_tree
from stillends.treetexts import spans, tree_text
from stillends.tries import inner_texts, token_number
from stillends.usefulness import least_tree, useful_parts
from stillends.writers import even_writer, lets_writer, state_behind
from tests.helpers import told

EXAMPLES = """
    >>> NEST = (("s",), 0, ((0, ()), (0, ("a", 0, "b"))))
    >>> CUTS = ("a", "b", "ab")
    >>> LONE = ("a", "ab")
    >>> FREE = (1, (0,), ((0, 0, 0),))
    >>> FREE2 = (1, (0,), ((0, 0),))
    >>> EVEN = (4, ((1, 1, 1, 1),), ((0, 0, 0),))
    >>> is_letter("ab"), is_text(""), is_number(True)
    (False, True, False)
    >>> lets_tokens(("a", "", "a"))
    raises InvalidPaper('text', 1)
    >>> row_text(CUTS, (2, 0, 1)), is_row(CUTS, (0, True))
    ('abab', False)
    >>> inner_texts(CUTS), token_number(CUTS, "ba")
    (('', 'a'), -1)
    >>> runs(LONE, (2, (1,), ((1, -1), (0, 1))), (0, 1)), takes(LONE, FREE2, ())
    (1, True)
    >>> pairs_book(CUTS, ((2, 2), (0, 1), (2, 2)))
    (3, (0, 1, 2), ((1, 0, 2), (1, -1, 2), (1, 0, -1)))
    >>> longest_row(CUTS, "aab"), longest_row(("a", "ab", "bc"), "abc")
    ((0, 2), None)
    >>> canon_book(CUTS)
    (2, (0, 1), ((1, 0, 0), (1, -1, 0)))
    >>> even_writer(LONE)
    (3, ((1, 1, 1),), ((0, 0),))
    >>> choice_of(LONE, (3, ((1, 0, 2),), ((0, 0),)), 0, 1)
    -1
    >>> says(CUTS, EVEN, (2, 3, 0)), tapes_of(CUTS, EVEN, (2,), 2)
    (((2,), True, 2), 4)
    >>> speller(("ab",), (1, (0,), ((0,),)), "a", "healed")
    (((0, 0, ''), (1, 0, ''), (1, 0, 'a')), (1,), ((0, 'a', 2, -1), (1, 'a', 2, -1), (2, 'b', 1, 0)))
    >>> place_behind(CUTS, FREE, "ab", "healed", (0,)), place_behind(CUTS, FREE, "ab", "healed", (1,))
    ((1, 0, ''), None)
    >>> priced(LONE, FREE2, "b", "behind")
    (3, ((0, 'b', 1, 0), (1, 'a', 1, 1), (1, 'a', 2, 0), (2, 'b', 1, 1)))
    >>> lets_grammar((("s",), 0, ((0, ("a",)), (0, (False,)))))
    raises InvalidPaper('body', 1)
    >>> PAIRS = (("s", "x"), 0, ((0, (1, 1)), (1, ()), (1, ("a",))))
    >>> kids(PAIRS, (0, 1, 2))
    ((1,), (2,))
    >>> grafted(PAIRS, 0, ((2,), (1,)))
    (0, 2, 1)
    >>> spans(PAIRS, (0, 1, 2))
    ((0, 1), (0, 0), (0, 1))
    >>> PART = (("s", "t", "u"), 0, ((0, (1,)), (0, ("a", 2)), (1, ("b",)), (1, (1, "c"))))
    >>> useful_parts(PART)
    ((0, 1), (0, 2, 3))
    >>> least_tree(PART, 0)
    (0, 2)
    >>> RING = (("s",), 0, ((0, ()), (0, ("a",)), (0, (0, 0))))
    >>> first_looped(RING)
    0
    >>> least_letters(PART)
    (1, 1, None)
    >>> begins(NEST, "aab")
    True
    >>> spans_of(NEST, "ab")
    ((0, 0, 0), (0, 0, 2), (1, 0, 1), (2, 0, 2))
    >>> texts_upto(NEST, 5)
    ('', 'ab', 'aabb')
    >>> count_trees(PAIRS, "a")
    2
    >>> count_trees(RING, "b")
    raises Looped(0)
    >>> nth_tree(PAIRS, "a", 1)
    (0, 2, 1)
    >>> rank_tree(PAIRS, (0, 2, 1))
    1
    >>> ROAD = (2, ((0, "a", 0, 1), (0, "b", 1, 0), (1, "b", 0, 3), (1, "b", 1, 1)))
    >>> lets_machine(ROAD)
    2
    >>> text_price(ROAD, 0, 0, "aabb")
    5
    >>> prices(NEST, ROAD)
    ((0, 0, 0, 0), (0, 0, 1, 1), (1, 0, 1, 0))
    >>> least_three(NEST, ROAD, 0, 0, 1)
    (1, 2, 2)
    >>> least_way(NEST, ROAD, 0, 0, 1)
    ((1, 0), (0, 0, 1))
    >>> way_price(NEST, ROAD, 0, 0, 1, ((1, 1, 0), (0, 0, 0, 1, 1)))
    3
    >>> floor_holds(NEST, ROAD, ((0, 0, 0, 0), (0, 0, 1, 2), (1, 0, 1, 0)))
    False
    >>> cut_table(((0, 0, 1, 7), (0, 0, 0, -2)), 3)
    ((0, 0, 1, 3), (0, 0, 0, -2))
    >>> items_of(NEST, ROAD)
    ((0, 0, 0), (0, 0, 1), (1, 0, 1))
    >>> closed_list(NEST, ROAD, ((0, 0, 0), (1, 0, 1)))
    False
    >>> chained((1, ((0, "a", 0, 1),)), 0, "ab")
    ((3, ((0, 'a', 0, 1), (1, 'a', 2, 0), (2, 'b', 0, 0))), 1)
    >>> shortest_text(NEST)
    ('', (0,))
    >>> shortest_taken(NEST, ROAD, 0, (1,))
    ('ab', (1, 0))
    >>> TASK = (NEST, CUTS, FREE, "", "behind")
    >>> inside(TASK, EVEN, 2)
    ((0, 0, 0, 0, 0, 0, 1), (0, 0, 0, 0, 0, 1, 1), (0, 0, 0, 0, 0, 2, 1), (1, 0, 0, 1, 0, 0, 1))
    >>> is_good(TASK, (0, 1)), is_good(TASK, (0, 2))
    (True, False)
    >>> letters_read((NEST, CUTS, FREE, "a", "behind"), (1,))
    'ab'
"""


def shown(line, names):
    """What the document shows for a line: the value, or the error."""
    try:
        return repr(eval(line, names))
    except StillError as error:
        return f"raises {told(error)}"


class ExamplesTest(unittest.TestCase):
    def test_examples(self):
        names = dict(globals())
        lines = [line.strip() for line in EXAMPLES.strip().split("\n")]
        for k, line in enumerate(lines):
            if line.startswith(">>> ") and (k + 1 == len(lines) or lines[k + 1].startswith(">>> ")):
                exec(line[4:], names)
            elif line.startswith(">>> "):
                self.assertEqual(shown(line[4:], names), lines[k + 1], line)

    def test_all_names_of_the_interface_are_there(self):
        self.assertEqual(END, -1)
        self.assertEqual((lets_book((), (1, (), ((),))), free_book(("a",))), (1, (1, (0,), ((0,),))))
        self.assertEqual(lets_writer(("a",), even_writer(("a",))), 1)
        self.assertEqual(state_behind(("a",), even_writer(("a",)), (0,)), 0)
        self.assertEqual(lets_tree((("s",), 0, ((0, ()),)), (0,)), 0)
        self.assertTrue(is_of_grammar((("s",), 0, ((0, ()),)), (0,)))
        self.assertEqual(tree_text((("s",), 0, ((0, ("a",)),)), (0,)), "a")
        self.assertEqual(nullable_names((("s",), 0, ((0, ()),))), (0,))
        self.assertTrue(in_grammar((("s",), 0, ((0, ()),)), ""))
        self.assertEqual(lets_task(((("s",), 0, ()), ("a",), free_book(("a",)), "", "behind")), 1)
