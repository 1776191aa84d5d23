"""Guides: what all runs of one task have in common."""

from stillends.liveruns import Run
from stillends.quickneeds import Lead


class Guide(Lead):
    """A task whose grammar reads one way, for runs to be led by."""

    def __init__(self, task):
        Lead.__init__(self, task)

    def task(self):
        """The task."""
        return self.led_task

    def run(self, budget):
        """A new run of this guide with the budget."""
        return Run(self, budget)
