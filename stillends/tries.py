"""Inner texts, and how tokens are spelled letter by letter."""

from stillends.checks import ask_text
from stillends.orders import by_length


def inner_texts(tokens):
    """All proper beginnings of tokens, each once, by length."""
    found = {token[:k] for token in tokens for k in range(len(token))}
    return tuple(by_length(sorted(found)))


def token_number(tokens, text):
    """The number of the token that is this text, -1 if it is none."""
    ask_text(text)
    return token_numbers(tokens).get(text, -1)


def token_numbers(tokens):
    """The number of each token, by its text."""
    return {token: k for k, token in enumerate(tokens)}


def spelled_on(tokens):
    """For each inner text the letters, ascending, by which some token goes on behind it.

    Each is told as a triple: the letter, whether the inner text with it is an inner text again,
    and the number of the token that it then is, -1 if it is none.
    """
    inner = {text: True for text in inner_texts(tokens)}
    numbers = token_numbers(tokens)
    found = {token[: k + 1] for token in tokens for k in range(len(token))}
    ways = {text: [] for text in inner}
    for text in sorted(found):
        ways[text[:-1]].append((text[-1], text in inner, numbers.get(text, -1)))
    return ways
