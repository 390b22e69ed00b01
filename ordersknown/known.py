"""What is known of the orders on a table, as six kinds of things."""


class Known:
    """Of each kind a dict with the provinces of the units of which it is known."""

    def __init__(self):
        self.goes = {}
        self.fails = {}
        self.has_way = {}
        self.has_none = {}
        self.cut = {}
        self.uncut = {}

    def six_kinds(self):
        """In the order in which they are told."""
        return [self.goes, self.fails, self.has_way, self.has_none, self.cut, self.uncut]

    def how_many(self):
        return sum([len(kind) for kind in self.six_kinds()])
