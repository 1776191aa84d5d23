"""The order of texts and rows by length, and of what leads on to one another."""


def by_length(things):
    """The texts or rows as a list: shorter ones first, those of one length ascending."""
    return sorted(things, key=lambda thing: (len(thing), thing))


def components(leads):
    """The numbers below the length of leads in parts, each of them those that lead to one another.

    leads has a list of numbers for each number: those to which it leads. A part stands behind all
    others to which it leads.
    """
    back = [[] for _ in leads]
    for k, others in enumerate(leads):
        for other in others:
            back[other].append(k)
    met = [False] * len(leads)
    parts = []
    # What is finished last on the ways back leads to nothing outside of its part that is not met yet.
    for k in _finished(back)[::-1]:
        if not met[k]:
            parts.append(_reached(k, leads, met))
    return parts


def _finished(leads):
    """All numbers, each behind those that it leads to first, in a search that goes deep first."""
    finished = []
    met = [False] * len(leads)
    for root in range(len(leads)):
        path = [] if met[root] else [(root, 0)]
        met[root] = True
        while len(path) > 0:
            k, at = path.pop()
            if at == len(leads[k]):
                finished.append(k)
                continue
            path.append((k, at + 1))
            other = leads[k][at]
            if not met[other]:
                met[other] = True
                path.append((other, 0))
    return finished


def _reached(root, leads, met):
    """Those not yet met to which root leads, itself too; they are met from now on."""
    met[root] = True
    found = [root]
    due = [root]
    while len(due) > 0:
        k = due.pop()
        for other in leads[k]:
            if not met[other]:
                met[other] = True
                found.append(other)
                due.append(other)
    return found
