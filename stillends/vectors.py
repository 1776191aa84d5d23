"""Vectors of stands: how many tokens it takes at least to read what they derive, place by place."""

from stillends.dots import Dots, OVER, Tails
from stillends.ledgers import Ledger
from stillends.spellers import Ground
from stillends.stands import ask_stand


def stand_vector(task, stand):
    """For each place the least number of tokens finished on a way to a final that reads what the stand derives."""
    grammar, tokens, book, begun, mode = task
    ask_stand(grammar, stand)
    dots = Dots(grammar)
    tails = Tails(False)
    ground = Ground(tokens, book, begun, mode)
    ledger = Ledger(dots, tails, ground)
    tail = 0
    for symbol in stand[::-1]:
        tail = tails.behind(dots.dot_of(symbol), tail)
    return tuple([ledger.least(OVER, tail, place) for place in range(ground.many)])
