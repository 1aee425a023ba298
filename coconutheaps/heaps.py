"""The calls on one night of shares: one list of whole numbers in, one out."""

MOST_SHARES = 10
LEAST_PARTS = 2
MOST_PARTS = 9
LEAST_DIVISOR = 1
MOST_DIVISOR = 20

WRONG_NUMBER = -1
DOES_NOT_GO = -3
NEVER_SO_MUCH = -4
TOO_MANY_SHARES = -5
NO_HEAP = -6
ALL_TAKEN = -7
NO_SHARE = -9

NIGHT = 0
SHARE = 1
UNDO = 2
SAILORS = 3
GOES = 4
GETS = 5
LEAST = 6
EVERY = 7
COUNT = 8
RICHEST = 9
BACK = 10
LAST = 11

# How many numbers stand behind a call's own number, by that number.
NUMBERS_BEHIND = (0, 3, 0, 1, 1, 1, 1, 0, 1, 2, 1, 1)


class Share:
    def __init__(self, parts, over, taken):
        self.parts = parts
        self.over = over
        self.taken = taken

    def goes_with(self, heap):
        return heap % self.parts == self.over

    def part_size(self, heap):
        return (heap - self.over) // self.parts

    def heap_behind(self, size):
        return (self.parts - self.taken) * size

    def takes_all(self):
        return self.taken == self.parts

    # None where no size of the parts leaves just this heap behind the share.
    def heap_ahead(self, rest):
        parts_left = self.parts - self.taken
        if rest % parts_left != 0:
            return None
        return rest // parts_left * self.parts + self.over


# Numbers from a first one on, each one step above the one before it.
class Row:
    def __init__(self, first, step):
        self.first = first
        self.step = step

    def number(self, place):
        return self.first + place * self.step

    # None where the row stands still below the bound.
    def place_from(self, bound):
        if self.first >= bound:
            return 0
        if self.step == 0:
            return None
        return rounded_up(bound - self.first, self.step)

    def count_to(self, bound):
        if bound < self.first:
            return 0
        return (bound - self.first) // self.step + 1

    def leaves(self, divisor):
        # What is left repeats after as many places as the divisor, or sooner.
        return sorted(set([self.number(place) % divisor for place in range(divisor)]))

    # None where the share goes with no number of the row.
    def place_that_goes(self, share):
        # Whether it goes repeats after as many places as the parts, or sooner.
        for place in range(share.parts):
            if share.goes_with(self.number(place)):
                return place
        return None

    # From a place where the share goes, how far on it goes again.
    def places_between(self, share):
        places = 1
        while places * self.step % share.parts != 0:
            places += 1
        return places

    def thinned(self, place, places):
        return Row(self.number(place), places * self.step)

    # Asked only where the share goes with every number of the row: then its
    # parts divide the step.
    def rests_behind(self, share):
        first = share.heap_behind(share.part_size(self.first))
        return Row(first, share.heap_behind(self.step // share.parts))


class Night:
    def __init__(self):
        self.shares = []

    def begin(self):
        self.shares = []
        return [0]

    def add_share(self, parts, over, taken):
        # A wrong share is told ahead of a full night, so it is asked first.
        if not is_share(parts, over, taken):
            return [WRONG_NUMBER]
        if len(self.shares) == MOST_SHARES:
            return [TOO_MANY_SHARES]
        self.shares.append(Share(parts, over, taken))
        return [len(self.shares)]

    def undo(self):
        if len(self.shares) == 0:
            return [NO_SHARE]
        self.shares.pop()
        return [len(self.shares)]

    def set_sailors(self, sailors):
        if not is_parts(sailors):
            return [WRONG_NUMBER]
        shares = [Share(sailors, 1, 1) for sailor in range(sailors)]
        shares.append(Share(sailors, 1, sailors))
        self.shares = shares
        return [len(shares)]

    # Only the shares that go have a part; so how many sizes there are also
    # tells how many shares go.
    def part_sizes(self, heap):
        sizes = []
        rest = heap
        for share in self.shares:
            if not share.goes_with(rest):
                return sizes
            size = share.part_size(rest)
            sizes.append(size)
            rest = share.heap_behind(size)
        return sizes

    def goes(self, heap):
        sizes = self.part_sizes(heap)
        rests = [share.heap_behind(size) for share, size in zip(self.shares, sizes)]
        return [len(rests)] + rests

    def gets(self, heap):
        if len(self.part_sizes(heap)) < len(self.shares):
            return [DOES_NOT_GO]
        return [self.monkey_gets()] + self.taken_of(heap) + [self.left_of(heap)]

    def monkey_gets(self):
        return sum([share.over for share in self.shares])

    def taken_of(self, heap):
        sizes = self.part_sizes(heap)
        return [share.taken * size for share, size in zip(self.shares, sizes)]

    # No coconut is lost: this holds for a night with no shares, too.
    def left_of(self, heap):
        return heap - self.monkey_gets() - sum(self.taken_of(heap))

    # None where the night goes with no heap.
    def going_heaps(self):
        going = Row(0, 1)
        rests = Row(0, 1)
        for share in self.shares:
            place = rests.place_that_goes(share)
            if place is None:
                return None
            places = rests.places_between(share)
            going = going.thinned(place, places)
            rests = rests.thinned(place, places).rests_behind(share)
        return going

    def least(self, bound):
        going = self.going_heaps()
        if going is None:
            return [NO_HEAP]
        return [going.number(going.place_from(bound))]

    def every(self):
        going = self.going_heaps()
        if going is None:
            return [NO_HEAP]
        return [going.first, going.step]

    def count_going(self, bound):
        going = self.going_heaps()
        if going is None:
            return [0]
        return [going.count_to(bound)]

    def richest(self, bound, index):
        if index >= len(self.shares):
            return [WRONG_NUMBER]
        going = self.going_heaps()
        if going is None:
            return [NO_HEAP]
        # What is taken rises evenly from one heap that goes to the next.
        taken = row_through(self.taken_of(going.first)[index], self.taken_of(going.number(1))[index])
        place = taken.place_from(bound)
        if place is None:
            return [NEVER_SO_MUCH]
        return [going.number(place)]

    def back(self, left):
        # Told ahead of a night that goes with no heap, so it is asked first.
        if any([share.takes_all() for share in self.shares]):
            return [ALL_TAKEN]
        heap = left
        for share in reversed(self.shares):
            heap = share.heap_ahead(heap)
            if heap is None:
                return [NO_HEAP]
        return [heap]

    def last(self, divisor):
        if not LEAST_DIVISOR <= divisor <= MOST_DIVISOR:
            return [WRONG_NUMBER]
        going = self.going_heaps()
        if going is None:
            return [NO_HEAP]
        left = row_through(self.left_of(going.first), self.left_of(going.number(1)))
        leaves = left.leaves(divisor)
        return [len(leaves)] + leaves


def is_parts(number):
    return LEAST_PARTS <= number <= MOST_PARTS


def is_share(parts, over, taken):
    return is_parts(parts) and 0 <= over < parts and 1 <= taken <= parts


def rounded_up(number, divisor):
    return (number + divisor - 1) // divisor


def row_through(first, second):
    return Row(first, second - first)


def answer_call(night, call, numbers):
    if call == NIGHT:
        return night.begin()
    if call == SHARE:
        return night.add_share(numbers[0], numbers[1], numbers[2])
    if call == UNDO:
        return night.undo()
    if call == SAILORS:
        return night.set_sailors(numbers[0])
    if call == GOES:
        return night.goes(numbers[0])
    if call == GETS:
        return night.gets(numbers[0])
    if call == LEAST:
        return night.least(numbers[0])
    if call == EVERY:
        return night.every()
    if call == COUNT:
        return night.count_going(numbers[0])
    if call == RICHEST:
        return night.richest(numbers[0], numbers[1])
    if call == BACK:
        return night.back(numbers[0])
    return night.last(numbers[0])


def answers(calls):
    night = Night()
    answered = []
    place = 0
    while place < len(calls):
        call = calls[place]
        behind = place + 1 + NUMBERS_BEHIND[call]
        answer = answer_call(night, call, calls[place + 1:behind])
        answered.append(len(answer))
        answered.extend(answer)
        place = behind
    return answered
