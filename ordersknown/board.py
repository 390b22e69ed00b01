"""The board: provinces, and the links of land and of sea between them."""

LAND = 0
SEA = 1
COAST = 2

SHORES = 4


def link_between(one, other):
    """The link's key: it goes both ways, so either end may be named first."""
    return (min(one, other), max(one, other))


class Board:
    """Provinces are numbers, places are pairs of a province and a shore."""

    def __init__(self):
        self.kinds = []
        self.land_links = {}
        self.sea_links = {}

    def lay_province(self, kind):
        self.kinds.append(kind)
        return len(self.kinds) - 1

    def join_by_land(self, p, q):
        self.land_links[link_between(p, q)] = True

    def joined_by_land(self, p, q):
        return link_between(p, q) in self.land_links

    def join_by_sea(self, place, other):
        self.sea_links[link_between(place, other)] = True

    def joined_by_sea(self, place, other):
        return link_between(place, other) in self.sea_links

    def joined_at_some_shore(self, place, q):
        return any([self.joined_by_sea(place, (q, t)) for t in range(SHORES)])
