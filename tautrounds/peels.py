"""Orbits of pairings of very many numbers, counted without going through them (Agol, Hass and Thurston).

The numbers are taken away from the greatest one down. The longest pairing that comes to the top pairs it with lower
numbers: so what other pairings have up there is moved down along it, and then the top is folded down by it as far as
nothing else is left there. What no pairing comes to is an orbit by itself. Weights are added up as the top is folded.
Weights of several parts are packed into a few numbers, so that eleven parts are added up at once.
"""

# Sums of weights lie below 10 ** 72 in each part, and so far below 2 ** 255.
PART_BITS = 256
PART_MASK = (1 << 256) - 1
PARTS_PACKED = 11


def _normal(pairing):
    """The pairing as (low, high, length, way), low below high, no number paired both ways; None if nothing is left."""
    low, high, length, way = min(pairing[:2]), max(pairing[:2]), pairing[2], pairing[3]
    if way == -1 and low + length > high:
        # A row turned about in itself: its lower half is paired with its upper one.
        middle = low + high + length - 1
        length = (middle + 1) // 2 - low
        high = middle - (low + length - 1)
    if length == 0 or low == high:
        return None
    return low, high, length, way


def _moved_down(start, length, over):
    """Where a row of numbers comes to, and in which direction, when it is moved down along a pairing that pairs it."""
    low, high, size, way = over
    if way == 1:
        step = high - low
        return start - ((start - high) // step + 1) * step, 1
    return low + high + size - start - length, -1


def _led_down(pairing, over):
    """The pairing that does the same to all orbits, with what it pairs moved down along the other one."""
    low, high, length, way = pairing
    if high < over[1]:
        return pairing
    high, turn = _moved_down(high, length, over)
    way = way * turn
    if low >= over[1]:
        low, turn = _moved_down(low, length, over)
        way = way * turn
    return _normal((low, high, length, way))


def _plus(one, other):
    """Two packed weights added up."""
    return tuple([number + another for number, another in zip(one, other)])


class Weights:
    """Weights of the numbers below size: from each edge on, as far as the next one, all numbers have one weight."""

    def __init__(self, rows):
        self.edges = []
        self.worths = []
        self.size = 0
        for length, worth in rows:
            self.edges.append(self.size)
            self.worths.append(worth)
            self.size += length

    def _edge(self, place):
        """The index of the edge at this place, which is put in if there is none."""
        low, high = 0, len(self.edges)
        while low < high:
            middle = (low + high) // 2
            if self.edges[middle] < place:
                low = middle + 1
            else:
                high = middle
        if place < self.size and (low == len(self.edges) or self.edges[low] != place):
            self.edges.insert(low, place)
            self.worths.insert(low, self.worths[low - 1])
        return low

    def add_on(self, low, high, worth):
        """Adds to the weights of all numbers from low on, below high."""
        first = self._edge(low)
        for at in range(first, self._edge(high)):
            self.worths[at] = _plus(self.worths[at], worth)

    def cut_off(self, size):
        """Takes away all numbers from size on: told are the triples (start, length, weight) of their rows."""
        first = self._edge(size)
        ends = self.edges[first + 1:] + [self.size]
        rows = [
            (start, end - start, worth)
            for start, end, worth in zip(self.edges[first:], ends, self.worths[first:])
        ]
        self.edges = self.edges[:first]
        self.worths = self.worths[:first]
        self.size = size
        return rows

    def fold_down(self, size, over):
        """Takes away all numbers from size on, and adds their weights to those with which a pairing pairs them."""
        low, high, length, way = over
        rows = self.cut_off(size)
        for start, many, worth in rows:
            if way == -1:
                first = low + high + length - start - many
                self.add_on(first, first + many, worth)
            else:
                self._wind(size, high - low, start - size, many, worth)

    def _wind(self, size, step, first, many, worth):
        """Adds a row's weight to the topmost step numbers, round and round, from the one so many places on."""
        whole, rest = many // step, many % step
        if whole > 0:
            self.add_on(size - step, size, tuple([whole * number for number in worth]))
        start = size - step + first % step
        end = start + rest
        if end > size:
            self.add_on(size - step, end - step, worth)
            end = size
        if start < end:
            self.add_on(start, end, worth)


class Peel:
    """What is left of numbers below size, pairings and weights; found tells how many orbits had which sum."""

    def __init__(self, size, pairings, rows):
        self.size = size
        normal = [_normal(pairing) for pairing in pairings]
        self.pairings = [pairing for pairing in normal if pairing is not None]
        self.weights = Weights(rows)
        self.found = {}

    def step(self):
        """Takes some numbers away from the top."""
        tops = [high + length for _, high, length, _ in self.pairings]
        top = max(tops, default=0)
        if top < self.size:
            rows = self.weights.cut_off(top)
            for _, many, worth in rows:
                self.found[worth] = self.found.get(worth, 0) + many
            self.size = top
            return
        _, at = min([(self.pairings[at][1], at) for at, end in enumerate(tops) if end == top])
        self._fold(at)

    def _fold(self, at):
        """Folds the top down by the pairing at this place, which is the longest one there."""
        over = self.pairings[at]
        others = [_led_down(pairing, over) for pairing in self.pairings[:at] + self.pairings[at + 1:]]
        others = [pairing for pairing in others if pairing is not None]
        size = max([high + length for _, high, length, _ in others] + [over[1]])
        self.weights.fold_down(size, over)
        low, high, length, way = over
        gone = self.size - size
        if way == -1:
            low += gone
        if length > gone:
            others.append((low, high, length - gone, way))
        self.pairings = others
        self.size = size


def orbit_sums(size, pairings, rows):
    """The dict from sums of weights, packed, to how many orbits of the numbers below size have this sum.

    Pairings are tuples (start, other, length, way); rows are pairs (length, packed weight), the lengths size together.
    """
    peel = Peel(size, pairings, rows)
    while peel.size > 0:
        peel.step()
    return peel.found


def packed(numbers):
    """The numbers packed, and behind them 0 for a mark: sums of such are packed sums of the parts."""
    worth = []
    for start in range(0, len(numbers), PARTS_PACKED):
        part = 0
        for number in reversed(numbers[start:start + PARTS_PACKED]):
            part = (part << PART_BITS) + number
        worth.append(part)
    return tuple(worth) + (0,)


def unpacked(worth, many):
    """The tuple of so many numbers that were packed, and perhaps summed up."""
    numbers = []
    for part in worth[:-1]:
        for _ in range(min(PARTS_PACKED, many - len(numbers))):
            number = part & PART_MASK
            if number > PART_MASK // 2:
                number -= PART_MASK + 1
            numbers.append(number)
            part = (part - number) >> PART_BITS
    return tuple(numbers)


def marked(rows, number):
    """The rows of weights with one mark more on the weight of one number."""
    told = []
    start = 0
    for length, worth in rows:
        if start <= number < start + length:
            with_mark = worth[:-1] + (worth[-1] + 1,)
            parts = [(number - start, worth), (1, with_mark), (start + length - number - 1, worth)]
            told.extend([part for part in parts if part[0] > 0])
        else:
            told.append((length, worth))
        start += length
    return told


def sum_with(size, pairings, rows, number):
    """The sum of the weights, packed, of the orbit in which this number is."""
    found = orbit_sums(size, pairings, marked(rows, number))
    return [worth for worth in found if worth[-1] == 1][0]


def are_together(size, pairings, one, other):
    """Whether two numbers below size are in one orbit."""
    rows = marked(marked([(size, (0,))], one), other)
    return one == other or (2,) in orbit_sums(size, pairings, rows)
