"""Whether texts can be spelled without some of the tokens."""

from stillends.errors import NotUsable
from stillends.setmachines import is_drop
from stillends.spelledall import shortest_barred


def needless(task, drop):
    """("needless", items) if each text with a good row has one without tokens in drop; or ("needed", text, table)."""
    if not is_drop(task[1], drop):
        raise NotUsable("drop")
    text, proof = shortest_barred(task, ("needless", drop))
    return ("needless", proof) if text is None else ("needed", text, proof)
