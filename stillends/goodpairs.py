"""Good pairs: tapes that say good rows, with trees."""

from stillends.books import state_after
from stillends.checks import are_below, ask_short, is_tuple_of
from stillends.nulls import ask_no_loop
from stillends.tapes import said
from stillends.tasks import letters_behind
from stillends.trees import is_of_grammar
from stillends.treetexts import letters_of_tree


def is_good_pair(task, writer, budget, thing):
    """Whether thing is a good pair for the budget."""
    ask_short(budget, "budget")
    ask_no_loop(task[0])
    return is_tuple_of(thing, 2) and are_good_pair(task, writer, budget, thing[0], thing[1])


def are_good_pair(task, writer, budget, tape, tree):
    """Whether any two values are the tape and the tree of a good pair for the budget."""
    grammar, _, book, begun, _ = task
    if not are_below(tape, writer[0]) or len(tape) != budget + 1 or not is_of_grammar(grammar, tree):
        return False
    row, ended, _ = said(writer, tape)
    if not ended or state_after(book, row) not in book[1]:
        return False
    text = letters_behind(task, row)
    return text.startswith(begun) and "".join(letters_of_tree(grammar, tree)) == text
