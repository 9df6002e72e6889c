"""A loft of sails, and the calls on it.

A set of sails is told as a number: sail i is in it if the number, written in twos, has a 1 at place i.
"""

GREATEST_WIND = 40
GREATEST_COST = 1000
GREATEST_K = 3
MOST_SAILS = 9

OUT_OF_BOUNDS = -1
LOFT_FULL = -5
NOT_ENOUGH = -6

BEGINS = 0
SAIL = 1
CHECK = 2
BEST = 3

# How many numbers a call has, its own number among them: begins, sail, check, best, fewest.
CALL_LENGTHS = (3, 4, 3, 2, 1)


class Sail:
    def __init__(self, least, greatest, cost):
        self.least = least
        self.greatest = greatest
        self.cost = cost

    def stands_in(self, wind):
        return self.least <= wind and wind <= self.greatest


class Loft:
    def __init__(self):
        self.least = 0
        self.greatest = 0
        self.sails = []

    def begins(self, least, greatest):
        if not are_winds(least, greatest):
            return [OUT_OF_BOUNDS]
        self.least = least
        self.greatest = greatest
        self.sails = []
        return [0]

    def sail(self, least, greatest, cost):
        if not are_winds(least, greatest) or cost > GREATEST_COST:
            return [OUT_OF_BOUNDS]
        if len(self.sails) == MOST_SAILS:
            return [LOFT_FULL]
        self.sails.append(Sail(least, greatest, cost))
        return [len(self.sails) - 1]

    def check(self, k, chosen):
        if k > GREATEST_K or chosen >= count_sets(self.sails):
            return [OUT_OF_BOUNDS]
        taken = sails_of_set(self.sails, chosen)
        wind = self.least_short_wind(k, taken)
        if wind is None:
            return [total_cost(taken), len(taken)]
        return [NOT_ENOUGH, wind, count_standing(taken, wind)]

    def best(self, k):
        if k > GREATEST_K:
            return [OUT_OF_BOUNDS]
        enough = self.sets_enough(k)
        if len(enough) == 0:
            return [NOT_ENOUGH]
        worths = [worth_of_set(self.sails, chosen) for chosen in enough]
        least = min(worths)
        # The sets come in rising order, so the first of the best is the least number.
        return [least[0], least[1], worths.count(least), enough[worths.index(least)]]

    def fewest(self):
        taken = []
        wind = self.least
        while wind <= self.greatest:
            number = farthest_sail(self.sails, wind)
            if number is None:
                return [NOT_ENOUGH, wind]
            taken.append(number)
            # Sails that were taken before all end below this wind, so the next one that lacks
            # a sail is right behind the end of the sail just taken.
            wind = self.sails[number].greatest + 1
        return [len(taken)] + taken

    def sets_enough(self, k):
        enough = []
        for chosen in range(count_sets(self.sails)):
            if self.least_short_wind(k, sails_of_set(self.sails, chosen)) is None:
                enough.append(chosen)
        return enough

    def least_short_wind(self, k, sails):
        for wind in range(self.least, self.greatest + 1):
            if count_standing(sails, wind) < k:
                return wind
        return None


def are_winds(least, greatest):
    return least <= greatest and greatest <= GREATEST_WIND


def count_sets(sails):
    sets = 1
    for place in range(len(sails)):
        sets = sets * 2
    return sets


def sails_of_set(sails, chosen):
    taken = []
    rest = chosen
    for sail in sails:
        if rest % 2 == 1:
            taken.append(sail)
        rest = rest // 2
    return taken


def total_cost(sails):
    return sum([sail.cost for sail in sails])


def worth_of_set(sails, chosen):
    taken = sails_of_set(sails, chosen)
    return (total_cost(taken), len(taken))


def count_standing(sails, wind):
    return len([sail for sail in sails if sail.stands_in(wind)])


def farthest_sail(sails, wind):
    farthest = None
    for number in range(len(sails)):
        if sails[number].stands_in(wind):
            # Only a sail that reaches farther takes the place, so of several the lowest number stays.
            if farthest is None or sails[number].greatest > sails[farthest].greatest:
                farthest = number
    return farthest


def answer_call(loft, call):
    if call[0] == BEGINS:
        return loft.begins(call[1], call[2])
    if call[0] == SAIL:
        return loft.sail(call[1], call[2], call[3])
    if call[0] == CHECK:
        return loft.check(call[1], call[2])
    if call[0] == BEST:
        return loft.best(call[1])
    return loft.fewest()


def answers(calls):
    loft = Loft()
    told = []
    start = 0
    while start < len(calls):
        end = start + CALL_LENGTHS[calls[start]]
        answer = answer_call(loft, calls[start:end])
        told.append(len(answer))
        told.extend(answer)
        start = end
    return told
