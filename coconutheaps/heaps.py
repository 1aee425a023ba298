"""The calls on one night of shares: one list of whole numbers in, one out."""

MOST_SHARES = 10
LEAST_PARTS = 2
MOST_PARTS = 9

WRONG_NUMBER = -1
DOES_NOT_GO = -3
TOO_MANY_SHARES = -5
NO_SHARE = -9

NIGHT = 0
SHARE = 1
UNDO = 2
SAILORS = 3
GOES = 4
GETS = 5

# How many numbers stand behind a call's own number, by that number.
NUMBERS_BEHIND = (0, 3, 0, 1, 1, 1)


class Share:
    def __init__(self, parts, over, taken):
        self.parts = parts
        self.over = over
        self.taken = taken

    def goes_with(self, heap):
        return heap % self.parts == self.over

    def part_size(self, heap):
        return (heap - self.over) // self.parts

    def heap_behind(self, size):
        return (self.parts - self.taken) * size


class Night:
    def __init__(self):
        self.shares = []

    def begin(self):
        self.shares = []
        return [0]

    def add_share(self, parts, over, taken):
        # A wrong share is told ahead of a full night, so it is asked first.
        if not is_share(parts, over, taken):
            return [WRONG_NUMBER]
        if len(self.shares) == MOST_SHARES:
            return [TOO_MANY_SHARES]
        self.shares.append(Share(parts, over, taken))
        return [len(self.shares)]

    def undo(self):
        if len(self.shares) == 0:
            return [NO_SHARE]
        self.shares.pop()
        return [len(self.shares)]

    def set_sailors(self, sailors):
        if not is_parts(sailors):
            return [WRONG_NUMBER]
        shares = [Share(sailors, 1, 1) for sailor in range(sailors)]
        shares.append(Share(sailors, 1, sailors))
        self.shares = shares
        return [len(shares)]

    # Only the shares that go have a part; so how many sizes there are also
    # tells how many shares go.
    def part_sizes(self, heap):
        sizes = []
        rest = heap
        for share in self.shares:
            if not share.goes_with(rest):
                return sizes
            size = share.part_size(rest)
            sizes.append(size)
            rest = share.heap_behind(size)
        return sizes

    def goes(self, heap):
        sizes = self.part_sizes(heap)
        rests = [share.heap_behind(size) for share, size in zip(self.shares, sizes)]
        return [len(rests)] + rests

    def gets(self, heap):
        sizes = self.part_sizes(heap)
        if len(sizes) < len(self.shares):
            return [DOES_NOT_GO]
        monkey = sum([share.over for share in self.shares])
        taken = [share.taken * size for share, size in zip(self.shares, sizes)]
        # No coconut is lost: this holds for a night with no shares, too.
        left = heap - monkey - sum(taken)
        return [monkey] + taken + [left]


def is_parts(number):
    return LEAST_PARTS <= number <= MOST_PARTS


def is_share(parts, over, taken):
    return is_parts(parts) and 0 <= over < parts and 1 <= taken <= parts


def answer_call(night, call, numbers):
    if call == NIGHT:
        return night.begin()
    if call == SHARE:
        return night.add_share(numbers[0], numbers[1], numbers[2])
    if call == UNDO:
        return night.undo()
    if call == SAILORS:
        return night.set_sailors(numbers[0])
    if call == GOES:
        return night.goes(numbers[0])
    return night.gets(numbers[0])


def answers(calls):
    night = Night()
    answered = []
    place = 0
    while place < len(calls):
        call = calls[place]
        behind = place + 1 + NUMBERS_BEHIND[call]
        answer = answer_call(night, call, calls[place + 1:behind])
        answered.append(len(answer))
        answered.extend(answer)
        place = behind
    return answered
