"""Functions of strangers that tests hand in."""


class Broken(Exception):
    """What a stranger's function raises."""


class Calls:
    """Functions that write down how they are called, tell how often they were, and raise when they are told to."""

    def __init__(self, *ops):
        self.log = []
        self.error = None
        self.functions = {op: self.function(op) for op in ops}

    def function(self, op):
        def work(row):
            self.log.append((op, row))
            if self.error is not None:
                raise self.error
            return f"{op}{len(self.log)}"
        return work
