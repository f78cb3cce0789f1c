"""The calls on one object, read from a list of whole numbers, and their answers."""

from cleaningtanks.lots import Lot
from cleaningtanks.lots import first_hour
from cleaningtanks.lots import hours_left
from cleaningtanks.lots import lies_in
from cleaningtanks.lots import lying
from cleaningtanks.lots import may_lie
from cleaningtanks.lots import meeting
from cleaningtanks.lots import most_at_once
from cleaningtanks.lots import numbers_of
from cleaningtanks.lots import plan_of
from cleaningtanks.lots import taken_by

NONE_SUCH = -2
NOT_BEGUN = -11
TOO_SHORT = -12
OVER = -16
ENDED = -17
OUT_OF_RANGE = -22
TOO_MANY = -28
NO_TANK = -33
TOO_LATE = -75

MOST_TANKS = 6
MOST_NEED = 500
MOST_LOTS = 12
MOST_LOTS_EVER = 60
MOST_CRATES = 1000
LAST_HOUR = 10000
MOST_HOURS = 500

BEGIN = 0


class House:
    """The tanks, the hour, and the lots that are there by their numbers, rising."""

    def __init__(self):
        self.begun = False
        self.tanks = 0
        self.need = 0
        self.hour = 0
        self.lots_ever = 0
        self.lots = {}


def all_lots(house):
    return list(house.lots.values())


def has_ended(house, lot):
    return lot.ends <= house.hour


def within(number, least, most):
    return least <= number and number <= most


def is_hour(number):
    return within(number, 0, LAST_HOUR)


def is_count_of_hours(number):
    return within(number, 1, MOST_HOURS)


def refusal_of_lots(house, told):
    """The refusal that's due for the lots told to a call; 0 where none is."""
    if len(told) > MOST_LOTS or len(set(told)) < len(told):
        return OUT_OF_RANGE
    for number in told:
        if number not in house.lots:
            return NONE_SUCH
    return 0


def lots_of(house, told):
    return [house.lots[number] for number in told]


def count_and_these(lots):
    return [len(lots)] + sorted(numbers_of(lots))


def answer_begin(house, told):
    tanks = told[0]
    need = told[1]
    if not within(tanks, 1, MOST_TANKS) or not within(need, 1, MOST_NEED):
        return [OUT_OF_RANGE]
    house.begun = True
    house.tanks = tanks
    house.need = need
    house.hour = 0
    house.lots_ever = 0
    house.lots = {}
    return [0]


def refusal_of_new_lot(house, hour, count, crates):
    """The refusal that's due for one more lot; 0 where none is."""
    if not is_hour(hour) or not is_count_of_hours(count) or not within(crates, 1, MOST_CRATES):
        return OUT_OF_RANGE
    if hour < house.hour:
        return OVER
    if count < house.need:
        return TOO_SHORT
    if len(house.lots) >= MOST_LOTS or house.lots_ever >= MOST_LOTS_EVER:
        return TOO_MANY
    if not may_lie(all_lots(house), hour, count, house.tanks):
        return NO_TANK
    return 0


def answer_lot(house, told):
    hour = told[0]
    count = told[1]
    crates = told[2]
    refusal = refusal_of_new_lot(house, hour, count, crates)
    if refusal < 0:
        return [refusal]
    number = house.lots_ever
    house.lots[number] = Lot(number, hour, hour + count, crates)
    house.lots_ever = number + 1
    return [number]


def answer_drop(house, told):
    number = told[0]
    if number not in house.lots:
        return [NONE_SUCH]
    lot = house.lots.pop(number)
    return [lot.crates, 1 if has_ended(house, lot) else 0]


def answer_longer(house, told):
    number = told[0]
    count = told[1]
    if number not in house.lots:
        return [NONE_SUCH]
    if not is_count_of_hours(count):
        return [OUT_OF_RANGE]
    lot = house.lots[number]
    if has_ended(house, lot):
        return [ENDED]
    # Only the hours behind its end are new, and in these it doesn't lie itself yet.
    if not may_lie(all_lots(house), lot.ends, count, house.tanks):
        return [NO_TANK]
    lot.ends = lot.ends + count
    return [lot.ends]


def answer_tank(house, told):
    if house.tanks >= MOST_TANKS:
        return [TOO_MANY]
    house.tanks = house.tanks + 1
    return [house.tanks]


def answer_hours(house, told):
    count = told[0]
    if not is_count_of_hours(count):
        return [OUT_OF_RANGE]
    if house.hour + count > LAST_HOUR:
        return [TOO_LATE]
    not_ended = [lot for lot in all_lots(house) if not has_ended(house, lot)]
    house.hour = house.hour + count
    return [house.hour, len([lot for lot in not_ended if has_ended(house, lot)])]


def answer_fewest(house, told):
    return [most_at_once(all_lots(house))]


def answer_peak(house, told):
    refusal = refusal_of_lots(house, told[0])
    if refusal < 0:
        return [refusal]
    return [most_at_once(lots_of(house, told[0]))]


def answer_at(house, told):
    hour = told[0]
    if not is_hour(hour):
        return [OUT_OF_RANGE]
    return count_and_these(lying(all_lots(house), hour))


def answer_plan(house, told):
    answer = [len(house.lots)]
    for lot, tank in plan_of(all_lots(house)):
        answer.append(lot.number)
        answer.append(tank)
    return answer


def answer_tankof(house, told):
    number = told[0]
    if number not in house.lots:
        return [NONE_SUCH]
    return [tank for lot, tank in plan_of(all_lots(house)) if lot.number == number]


def answer_most(house, told):
    tanks = told[0]
    if tanks > MOST_TANKS:
        return [OUT_OF_RANGE]
    return count_and_these(taken_by(all_lots(house), tanks))


def answer_mostof(house, told):
    tanks = told[0]
    if tanks > MOST_TANKS:
        return [OUT_OF_RANGE]
    refusal = refusal_of_lots(house, told[1])
    if refusal < 0:
        return [refusal]
    return count_and_these(taken_by(lots_of(house, told[1]), tanks))


def answer_together(house, told):
    refusal = refusal_of_lots(house, told[0])
    if refusal < 0:
        return [refusal]
    # That two meet is to say that both lie in one hour.
    return [1 if most_at_once(lots_of(house, told[0])) <= 1 else 0]


def answer_meets(house, told):
    number = told[0]
    if number not in house.lots:
        return [NONE_SUCH]
    return count_and_these(meeting(all_lots(house), house.lots[number]))


def answer_may(house, told):
    hour = told[0]
    count = told[1]
    if not is_hour(hour) or not is_count_of_hours(count):
        return [OUT_OF_RANGE]
    return [1 if may_lie(all_lots(house), hour, count, house.tanks) else 0]


def answer_first(house, told):
    return answer_firstwith(house, [house.tanks] + told)


def answer_firstwith(house, told):
    tanks = told[0]
    hour = told[1]
    count = told[2]
    if not within(tanks, 1, MOST_TANKS) or not is_hour(hour) or not is_count_of_hours(count):
        return [OUT_OF_RANGE]
    return [first_hour(all_lots(house), hour, count, tanks)]


def answer_ready(house, told):
    return count_and_these([lot for lot in all_lots(house) if has_ended(house, lot)])


def answer_left(house, told):
    number = told[0]
    if number not in house.lots:
        return [NONE_SUCH]
    return [hours_left(house.lots[number], house.hour)]


def answer_busy(house, told):
    lots = all_lots(house)
    return [sum([lot.ends - lot.begins for lot in lots]), max([lot.ends for lot in lots], default=0)]


def answer_look(house, told):
    number = told[0]
    if number not in house.lots:
        return [NONE_SUCH]
    lot = house.lots[number]
    return [lot.begins, lot.ends, lot.crates, 1 if lies_in(lot, house.hour) else 0]


def answer_sums(house, told):
    lots = all_lots(house)
    return [0, len(lots), sum([lot.crates for lot in lots]), len(lying(lots, house.hour))]


def answer_state(house, told):
    return [0, house.hour, house.tanks, house.need, house.lots_ever]


# By a call's number: what answers it, how many whole numbers it has, whether a row stands behind these.
CALLS = (
    (answer_begin, 2, False),
    (answer_lot, 3, False),
    (answer_drop, 1, False),
    (answer_longer, 2, False),
    (answer_tank, 0, False),
    (answer_hours, 1, False),
    (answer_fewest, 0, False),
    (answer_peak, 0, True),
    (answer_at, 1, False),
    (answer_plan, 0, False),
    (answer_tankof, 1, False),
    (answer_most, 1, False),
    (answer_mostof, 1, True),
    (answer_together, 0, True),
    (answer_meets, 1, False),
    (answer_may, 2, False),
    (answer_first, 2, False),
    (answer_firstwith, 3, False),
    (answer_ready, 0, False),
    (answer_left, 1, False),
    (answer_busy, 0, False),
    (answer_look, 1, False),
    (answer_sums, 0, False),
    (answer_state, 0, False),
)


def end_of_call(calls, place):
    """Where the call that begins at place is over."""
    form = CALLS[calls[place]]
    behind = place + 1 + form[1]
    if form[2]:
        return behind + 1 + calls[behind]
    return behind


def told_to_call(calls, place):
    """The whole numbers of the call that begins at place, then its row, if it has one, as a list."""
    form = CALLS[calls[place]]
    behind = place + 1 + form[1]
    told = calls[place + 1:behind]
    if form[2]:
        told.append(calls[behind + 1:end_of_call(calls, place)])
    return told


def answer_call(house, number, told):
    if number != BEGIN and not house.begun:
        return [NOT_BEGUN]
    act = CALLS[number][0]
    return act(house, told)


def answers(calls):
    """For each call, in order, how many numbers are answered, then these."""
    house = House()
    given = []
    place = 0
    while place < len(calls):
        answer = answer_call(house, calls[place], told_to_call(calls, place))
        given.append(len(answer))
        given.extend(answer)
        place = end_of_call(calls, place)
    return given
