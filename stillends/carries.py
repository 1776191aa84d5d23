"""Runs that are carried on with another grammar and other tokens."""

from stillends.errors import Ended, NotUsable
from stillends.guides import Guide
from stillends.liveruns import Run
from stillends.tasks import letters_behind


def carry(run, grammar, tokens, book):
    """A new run, of a new guide, that goes on from the text of the run with these and the tokens that are left."""
    if not isinstance(run, Run):
        raise NotUsable("run")
    if run.ended():
        raise Ended()
    _, _, _, begun, mode = run.guide().task()
    letters = letters_behind(run.guide().task(), run.row())
    if mode == "healed" and len(letters) < len(begun):
        task = (grammar, tokens, book, begun, "healed")
    else:
        task = (grammar, tokens, book, run.text(), "behind")
    return Guide(task).run(run.left())
