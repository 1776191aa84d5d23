"""The order of texts and rows by length."""


def by_length(things):
    """The texts or rows as a list: shorter ones first, those of one length ascending."""
    return sorted(things, key=lambda thing: (len(thing), thing))
