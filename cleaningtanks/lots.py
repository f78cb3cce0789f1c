"""Lots and what can be reckoned from them alone, without the tanks, the hour or the need."""


class Lot:
    """A lot that lies from hour begins up to hour ends, that one not with it."""

    def __init__(self, number, begins, ends, crates):
        self.number = number
        self.begins = begins
        self.ends = ends
        self.crates = crates


def numbers_of(lots):
    return [lot.number for lot in lots]


def lies_in(lot, hour):
    return lot.begins <= hour and hour < lot.ends


def lying(lots, hour):
    return [lot for lot in lots if lies_in(lot, hour)]


def two_meet(one, other):
    return one.begins < other.ends and other.begins < one.ends


def meeting(lots, lot):
    """The others among these lots that the lot meets."""
    return [other for other in lots if other.number != lot.number and two_meet(other, lot)]


def most_at_once(lots):
    # More lie than the hour before only where one begins, so no other hour can have the most.
    return max([len(lying(lots, lot.begins)) for lot in lots], default=0)


def may_lie(lots, hour, count, tanks):
    # Here too: if there's room in the first hour, it can only be gone where another lot begins.
    begins = [lot.begins for lot in lots if hour < lot.begins and lot.begins < hour + count]
    for asked in [hour] + begins:
        if len(lying(lots, asked)) >= tanks:
            return False
    return True


def first_hour(lots, hour, count, tanks):
    """The first hour, from that one on, from which one more may lie for so many hours, with one tank or more."""
    # Where an hour will do but the one ahead of it won't, that one is full, so a lot ends in between.
    # From the last end on none lies, so there's always an hour that will do.
    asked = [hour] + [lot.ends for lot in lots if lot.ends > hour]
    return min([begins for begins in asked if may_lie(lots, begins, count, tanks)])


def hours_left(lot, hour):
    """For how many hours the lot lies from that hour on; one that begins later lies for all of its hours."""
    return max(lot.ends - max(lot.begins, hour), 0)


def plan_order(lot):
    return (lot.begins, lot.number)


def end_order(lot):
    return (lot.ends, lot.number)


def least_free_tank(placed, lot):
    taken = [tank for other, tank in placed if two_meet(other, lot)]
    least = 0
    while least in taken:
        least += 1
    return least


def plan_of(lots):
    """Pairs of a lot and its tank, in the plan's order."""
    placed = []
    for lot in sorted(lots, key=plan_order):
        placed.append((lot, least_free_tank(placed, lot)))
    return placed


def taken_by(lots, tanks):
    """The lots that so many tanks take, in the order in which they end."""
    taken = []
    for lot in sorted(lots, key=end_order):
        if most_at_once(taken + [lot]) <= tanks:
            taken.append(lot)
    return taken
