"""Words of mirrors: whether two mean the same, how short one can be made, how it can end.

A point is kept as one whole number for each mirror: its height above that mirror. A mirror
throws the point to its other side and so changes the heights above the mirrors that it meets
askew. The point that lies 1 above every mirror is moved by each word but those that mean the
same as the empty one, and a height below 0 tells that one more use of that mirror shortens
the word. So the heights decide everything, for families that never end too.
"""

REFUSED = -2
MOST_MIRRORS = 8
MOST_LETTERS = 128

BEGIN = 0
SAME = 1
LENGTH = 2
LEAST = 3
ENDS = 4

# What two mirrors add to each other's heights. Only the product counts: 0, 1, 2 and 3 bring
# the point back after 2, 3, 4 and 6 uses of each, and from 4 on it never comes back. Unlike
# numbers in a pair keep the heights whole where like ones would be roots of 2 or 3.
PULLS = {2: (0, 0), 3: (1, 1), 4: (1, 2), 6: (1, 3), 0: (2, 2)}


class UnknownCall(ValueError):
    """A call's number is none of those that are answered."""


class Reader:
    """Goes through a list of calls without changing it."""

    def __init__(self, numbers):
        self.numbers = numbers
        self.place = 0

    def at_end(self):
        return self.place >= len(self.numbers)

    def take_number(self):
        number = self.numbers[self.place]
        self.place += 1
        return number

    def take_row(self):
        size = self.take_number()
        row = self.numbers[self.place:self.place + size]
        self.place += size
        return row


def is_table(n, m):
    """Whether m tells, for n mirrors, how often each two must be used in turn."""
    if n < 1 or n > MOST_MIRRORS or len(m) != n * n:
        return False
    for i in range(n):
        if m[n * i + i] != 1:
            return False
        for j in range(i):
            if m[n * i + j] not in PULLS or m[n * i + j] != m[n * j + i]:
                return False
    return True


def pull(n, m, i, j):
    """What a use of mirror i adds to the height above mirror j, for each 1 of height above i."""
    if i == j:
        return -2
    pair = PULLS[m[n * i + j]]
    return pair[0] if i < j else pair[1]


def pulls_of_table(n, m):
    """A row for each mirror: its pull on the height above each."""
    rows = []
    for i in range(n):
        rows.append([pull(n, m, i, j) for j in range(n)])
    return rows


def is_word(pulls, word):
    """Whether the word is short enough and names mirrors of this set alone."""
    return len(word) <= MOST_LETTERS and all([letter < len(pulls) for letter in word])


def mirrored(pulls, heights, mirror):
    """The heights of the point behind one use of a mirror."""
    own = heights[mirror]
    return [height + own * step for height, step in zip(heights, pulls[mirror])]


def heights_behind(pulls, letters):
    """The heights of the point that lay 1 above every mirror, once the letters are used in turn."""
    heights = [1 for row in pulls]
    for letter in letters:
        heights = mirrored(pulls, heights, letter)
    return heights


def lowest_crossed(heights):
    """The lowest mirror that the point lies below, or None."""
    for mirror, height in enumerate(heights):
        if height < 0:
            return mirror
    return None


def least_word(pulls, word):
    """The first in order of the shortest words that mean the same."""
    # The last letter is used first here, so that the heights tell how shortest words begin.
    heights = heights_behind(pulls, list(reversed(word)))
    letters = []
    mirror = lowest_crossed(heights)
    while mirror is not None:
        letters.append(mirror)
        heights = mirrored(pulls, heights, mirror)
        mirror = lowest_crossed(heights)
    return letters


def last_mirrors(pulls, word):
    """The sum of 2^i of the mirrors i with which a shortest word that means the same ends."""
    total = 0
    weight = 1
    for height in heights_behind(pulls, word):
        if height < 0:
            total += weight
        weight *= 2
    return total


def answer_begin(sets, o, n, m):
    if not is_table(n, m):
        return [REFUSED]
    sets[o] = pulls_of_table(n, m)
    return [0]


def answer_same(pulls, a, b):
    if not is_word(pulls, a) or not is_word(pulls, b):
        return [REFUSED]
    return [1 if heights_behind(pulls, a) == heights_behind(pulls, b) else 0]


def answer_one_word(call, pulls, word):
    """The answer of a call that hands in one word and nothing else."""
    if not is_word(pulls, word):
        return [REFUSED]
    if call == LENGTH:
        return [len(least_word(pulls, word))]
    if call == LEAST:
        return [0] + least_word(pulls, word)
    return [last_mirrors(pulls, word)]


def answer_call(reader, sets):
    """Reads one call and answers it; a begin changes the sets."""
    call = reader.take_number()
    o = reader.take_number()
    if call == BEGIN:
        n = reader.take_number()
        return answer_begin(sets, o, n, reader.take_row())
    if call == SAME:
        a = reader.take_row()
        return answer_same(sets[o], a, reader.take_row())
    if call in (LENGTH, LEAST, ENDS):
        return answer_one_word(call, sets[o], reader.take_row())
    raise UnknownCall(f"no call has the number {call}")


def answers(calls):
    """For each call of the list, in order: how many numbers are answered, then these."""
    reader = Reader(calls)
    sets = [[], []]
    given = []
    while not reader.at_end():
        answer = answer_call(reader, sets)
        given.append(len(answer))
        given.extend(answer)
    return given
