"""The calls on one wardrobe, and what they answer."""

NOT_AS_TOLD = -1
NO_SUCH_KIND = -2
NO_ROOM = -5

KINDS_AT_MOST = 4
COSTUMES_AT_MOST = 4
NEEDS_AT_MOST = 6

AWAY_AT_MOST = 10
HIRE_AT_MOST = 100000
SIZE_AT_MOST = 1000
GIVE_AT_MOST = 1000
NIGHT_AT_MOST = 1000

BEGINS = 0
KIND = 1
COSTUME = 2

# A call's own number is the index: nothing in the list itself tells where the next call begins.
NUMBERS_BEHIND = (0, 2, 3, 3)


# Kinds are kept as (away, hire), costumes as (kind, size, give), needs as (night, kind, size), each at its number.
class Wardrobe:
    def __init__(self):
        self.begin()

    def begin(self):
        self.kinds = []
        self.costumes = []
        self.needs = []
        return 0

    def has_kind(self, kind):
        return kind < len(self.kinds)

    def last_night(self):
        # No night is before 0, so the first need may be on any.
        if len(self.needs) == 0:
            return 0
        return self.needs[-1][0]

    # The order of the refusals below is the document's: of several the one told first is answered.

    def add_kind(self, away, hire):
        if away > AWAY_AT_MOST or hire > HIRE_AT_MOST:
            return NOT_AS_TOLD
        if len(self.kinds) == KINDS_AT_MOST:
            return NO_ROOM
        self.kinds.append((away, hire))
        return len(self.kinds) - 1

    def add_costume(self, kind, size, give):
        if not self.has_kind(kind):
            return NO_SUCH_KIND
        if size > SIZE_AT_MOST or give > GIVE_AT_MOST:
            return NOT_AS_TOLD
        if len(self.costumes) == COSTUMES_AT_MOST:
            return NO_ROOM
        self.costumes.append((kind, size, give))
        return len(self.costumes) - 1

    def add_need(self, night, kind, size):
        if not self.has_kind(kind):
            return NO_SUCH_KIND
        if night > NIGHT_AT_MOST or size > SIZE_AT_MOST or night < self.last_night():
            return NOT_AS_TOLD
        if len(self.needs) == NEEDS_AT_MOST:
            return NO_ROOM
        self.needs.append((night, kind, size))
        return len(self.needs) - 1


def answer(wardrobe, call, numbers):
    if call == BEGINS:
        return [wardrobe.begin()]
    if call == KIND:
        return [wardrobe.add_kind(numbers[0], numbers[1])]
    if call == COSTUME:
        return [wardrobe.add_costume(numbers[0], numbers[1], numbers[2])]
    # NUMBERS_BEHIND has no other call than need besides.
    return [wardrobe.add_need(numbers[0], numbers[1], numbers[2])]


def answers(calls):
    wardrobe = Wardrobe()
    answered = []
    start = 0
    while start < len(calls):
        call = calls[start]
        end = start + 1 + NUMBERS_BEHIND[call]
        told = answer(wardrobe, call, calls[start + 1:end])
        answered.append(len(told))
        answered.extend(told)
        start = end
    return answered
