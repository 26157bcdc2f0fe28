"""The calls on one wardrobe, and what they answer."""

NOT_AS_TOLD = -1
NO_SUCH_KIND = -2
NO_ROOM = -5
CANNOT_BE = -6

KINDS_AT_MOST = 4
COSTUMES_AT_MOST = 4
NEEDS_AT_MOST = 6

AWAY_AT_MOST = 10
HIRE_AT_MOST = 100000
SIZE_AT_MOST = 1000
GIVE_AT_MOST = 1000
NIGHT_AT_MOST = 1000

BEGINS = 0
KIND = 1
COSTUME = 2
NEED = 3
BEST = 4
CHECK = 5
PLAIN = 6

# A call's own number is the index: nothing in the list itself tells where the next call begins.
# Of check it's the count alone that is there in any case.
NUMBERS_BEHIND = (0, 2, 3, 3, 0, 1, 0, 3)


class Kind:
    def __init__(self, away, hire):
        self.away = away
        self.hire = hire


# The kind of a costume and of a need is a kind's number.
class Costume:
    def __init__(self, kind, size, give):
        self.kind = kind
        self.size = size
        self.give = give


class Need:
    def __init__(self, night, kind, size):
        self.night = night
        self.kind = kind
        self.size = size


class Wardrobe:
    def __init__(self):
        self.begin()

    def begin(self):
        self.kinds = []
        self.costumes = []
        self.needs = []
        return 0

    def with_one_more(self, costume):
        # A wardrobe of its own: what is asked of it changes nothing in this one, which may be full besides.
        larger = Wardrobe()
        larger.kinds = list(self.kinds)
        larger.costumes = self.costumes + [costume]
        larger.needs = list(self.needs)
        return larger

    def hired(self):
        return len(self.costumes)

    def has_kind(self, kind):
        return kind < len(self.kinds)

    def last_night(self):
        # No night is before 0, so the first need may be on any.
        if len(self.needs) == 0:
            return 0
        return self.needs[-1].night

    # The order of the refusals below is the document's: of several the one told first is answered.

    def add_kind(self, away, hire):
        if away > AWAY_AT_MOST or hire > HIRE_AT_MOST:
            return NOT_AS_TOLD
        if len(self.kinds) == KINDS_AT_MOST:
            return NO_ROOM
        self.kinds.append(Kind(away, hire))
        return len(self.kinds) - 1

    # What costume and more refuse alike; 0 if there's nothing to refuse.
    def costume_refusal(self, kind, size, give):
        if not self.has_kind(kind):
            return NO_SUCH_KIND
        if size > SIZE_AT_MOST or give > GIVE_AT_MOST:
            return NOT_AS_TOLD
        return 0

    def add_costume(self, kind, size, give):
        refusal = self.costume_refusal(kind, size, give)
        if refusal < 0:
            return refusal
        if len(self.costumes) == COSTUMES_AT_MOST:
            return NO_ROOM
        self.costumes.append(Costume(kind, size, give))
        return len(self.costumes) - 1

    def add_need(self, night, kind, size):
        if not self.has_kind(kind):
            return NO_SUCH_KIND
        if night > NIGHT_AT_MOST or size > SIZE_AT_MOST or night < self.last_night():
            return NOT_AS_TOLD
        if len(self.needs) == NEEDS_AT_MOST:
            return NO_ROOM
        self.needs.append(Need(night, kind, size))
        return len(self.needs) - 1


def suits(costume, need):
    return costume.kind == need.kind and abs(costume.size - need.size) <= costume.give


# Nights are in order: a costume of the later need's kind is back from every need ahead of the one answered here,
# and not back from that one and those between. It's the later need itself if none is still out.
def first_still_out(wardrobe, later):
    need = wardrobe.needs[later]
    away = wardrobe.kinds[need.kind].away
    first = 0
    while need.night - wardrobe.needs[first].night > away:
        first += 1
    return first


# The numbers with which the row so far can be one need longer. Hired is among them in any case, and the highest.
def choices(wardrobe, row):
    need = wardrobe.needs[len(row)]
    still_out = row[first_still_out(wardrobe, len(row)):]
    found = []
    for number, costume in enumerate(wardrobe.costumes):
        if suits(costume, need) and number not in still_out:
            found.append(number)
    found.append(wardrobe.hired())
    return found


# Of two rows the earlier stands ahead of the other, as the choices are in order.
def rows_that_can_be(wardrobe):
    rows = [[]]
    while len(rows[0]) < len(wardrobe.needs):
        longer = []
        for row in rows:
            longer.extend([row + [number] for number in choices(wardrobe, row)])
        rows = longer
    return rows


def row_one_by_one(wardrobe):
    row = []
    while len(row) < len(wardrobe.needs):
        row.append(choices(wardrobe, row)[0])
    return row


def cost(wardrobe, row):
    hired = wardrobe.hired()
    return sum([wardrobe.kinds[need.kind].hire for need, number in zip(wardrobe.needs, row) if number == hired])


# The need that keeps the row's costume from being worn for the later one, as check tells it; None if nothing does.
def hindrance(wardrobe, row, later):
    number = row[later]
    if number == wardrobe.hired():
        return None
    if not suits(wardrobe.costumes[number], wardrobe.needs[later]):
        return later
    for earlier in range(first_still_out(wardrobe, later), later):
        if row[earlier] == number:
            return earlier
    return None


def best(wardrobe):
    rows = rows_that_can_be(wardrobe)
    costs = [cost(wardrobe, row) for row in rows]
    least = min(costs)
    return [least, costs.count(least)] + rows[costs.index(least)]


def check(wardrobe, row):
    if len(row) != len(wardrobe.needs) or max(row, default=0) > wardrobe.hired():
        return [NOT_AS_TOLD]
    for need in range(len(row)):
        hindered_by = hindrance(wardrobe, row, need)
        if hindered_by is not None:
            return [CANNOT_BE, need, hindered_by]
    return [cost(wardrobe, row)]


def plain(wardrobe):
    row = row_one_by_one(wardrobe)
    return [cost(wardrobe, row)] + row


def more(wardrobe, kind, size, give):
    refusal = wardrobe.costume_refusal(kind, size, give)
    if refusal < 0:
        return [refusal]
    told = best(wardrobe.with_one_more(Costume(kind, size, give)))
    return [best(wardrobe)[0] - told[0]] + told[1:]


def answer(wardrobe, call, numbers):
    if call == BEGINS:
        return [wardrobe.begin()]
    if call == KIND:
        return [wardrobe.add_kind(numbers[0], numbers[1])]
    if call == COSTUME:
        return [wardrobe.add_costume(numbers[0], numbers[1], numbers[2])]
    if call == NEED:
        return [wardrobe.add_need(numbers[0], numbers[1], numbers[2])]
    if call == BEST:
        return best(wardrobe)
    if call == CHECK:
        return check(wardrobe, numbers[1:])
    if call == PLAIN:
        return plain(wardrobe)
    # NUMBERS_BEHIND has no other call than more besides.
    return more(wardrobe, numbers[0], numbers[1], numbers[2])


# Where the call that begins at start ends: the next one begins there.
def end_of_call(calls, start):
    call = calls[start]
    end = start + 1 + NUMBERS_BEHIND[call]
    if call == CHECK:
        end += calls[start + 1]
    return end


def answers(calls):
    wardrobe = Wardrobe()
    answered = []
    start = 0
    while start < len(calls):
        end = end_of_call(calls, start)
        told = answer(wardrobe, calls[start], calls[start + 1:end])
        answered.append(len(told))
        answered.extend(told)
        start = end
    return answered
