"""Words of mirrors: what they mean, how short they can be made, which lie below which, how many there are.

A point is kept as one whole number for each mirror: its height above that mirror. A mirror
throws the point to its other side and so changes the heights above the mirrors that it meets
askew. The point that lies 1 above every mirror is moved by each word but those that mean the
same as the empty one, and a height below 0 tells that one more use of that mirror shortens
the word. So the heights decide everything, for families that never end too.
"""

REFUSED = -2
NO_LONGEST = -1
MOST_MIRRORS = 8
MOST_LETTERS = 128
LONGEST_BETWEEN = 24

# No family of up to eight mirrors that ends has a longer word: the one of 696,729,600 turns has this.
LONGEST_LENGTH = 120
# What a word does is a table of up to eight rows of whole numbers. One that ever comes back does so
# by this many uses: orders of 3, 4 and 5 take 2, 2 and 4 of the rows, and no eight rows do more.
HIGHEST_ORDER = 60

BEGIN = 0
SAME = 1
LENGTH = 2
LEAST = 3
ENDS = 4
BELOW = 5
ORDER = 6
COUNT = 7
LONGEST = 8
BETWEEN = 9

# What two mirrors add to each other's heights. Only the product counts: 0, 1, 2 and 3 bring
# the point back after 2, 3, 4 and 6 uses of each, and from 4 on it never comes back. Unlike
# numbers in a pair keep the heights whole where like ones would be roots of 2 or 3.
PULLS = {2: (0, 0), 3: (1, 1), 4: (1, 2), 6: (1, 3), 0: (2, 2)}


class UnknownCall(ValueError):
    """A call's number is none of those that are answered."""


class Reader:
    """Goes through a list of calls without changing it."""

    def __init__(self, numbers):
        self.numbers = numbers
        self.place = 0

    def at_end(self):
        return self.place >= len(self.numbers)

    def take_number(self):
        number = self.numbers[self.place]
        self.place += 1
        return number

    def take_row(self):
        size = self.take_number()
        row = self.numbers[self.place:self.place + size]
        self.place += size
        return row


def is_table(n, m):
    """Whether m tells, for n mirrors, how often each two must be used in turn."""
    if n < 1 or n > MOST_MIRRORS or len(m) != n * n:
        return False
    for i in range(n):
        if m[n * i + i] != 1:
            return False
        for j in range(i):
            if m[n * i + j] not in PULLS or m[n * i + j] != m[n * j + i]:
                return False
    return True


def pull(n, m, i, j):
    """What a use of mirror i adds to the height above mirror j, for each 1 of height above i."""
    if i == j:
        return -2
    pair = PULLS[m[n * i + j]]
    return pair[0] if i < j else pair[1]


def pulls_of_table(n, m):
    """A row for each mirror: its pull on the height above each."""
    rows = []
    for i in range(n):
        rows.append([pull(n, m, i, j) for j in range(n)])
    return rows


def is_word(pulls, word):
    """Whether the word is short enough and names mirrors of this set alone."""
    return len(word) <= MOST_LETTERS and all([letter < len(pulls) for letter in word])


def mirrored(pulls, heights, mirror):
    """The heights of the point behind one use of a mirror."""
    own = heights[mirror]
    return [height + own * step for height, step in zip(heights, pulls[mirror])]


def moved(pulls, heights, letters):
    """The heights of the point once the letters are used in turn."""
    for letter in letters:
        heights = mirrored(pulls, heights, letter)
    return heights


def first_heights(pulls):
    """The heights of the point that no word has moved yet: 1 above every mirror."""
    return [1 for row in pulls]


def heights_behind(pulls, letters):
    """The heights of the point that lay 1 above every mirror, once the letters are used in turn."""
    return moved(pulls, first_heights(pulls), letters)


def lowest_crossed(heights):
    """The lowest mirror that the point lies below, or None."""
    for mirror, height in enumerate(heights):
        if height < 0:
            return mirror
    return None


def least_word(pulls, word):
    """The first in order of the shortest words that mean the same."""
    # The last letter is used first here, so that the heights tell how shortest words begin.
    heights = heights_behind(pulls, list(reversed(word)))
    letters = []
    mirror = lowest_crossed(heights)
    while mirror is not None:
        letters.append(mirror)
        heights = mirrored(pulls, heights, mirror)
        mirror = lowest_crossed(heights)
    return letters


def last_mirrors(pulls, word):
    """The sum of 2^i of the mirrors i with which a shortest word that means the same ends."""
    total = 0
    weight = 1
    for height in heights_behind(pulls, word):
        if height < 0:
            total += weight
        weight *= 2
    return total


def lies_below(pulls, a, b):
    """Whether some shortest word for b, with letters left out, means the same as a."""
    lower = heights_behind(pulls, a)
    upper = heights_behind(pulls, b)
    mirror = lowest_crossed(upper)
    # Where b can end with a mirror, it may be taken off b if it is taken off a too, should a be
    # able to end with it: that changes nothing in whether a lies below b.
    while mirror is not None:
        upper = mirrored(pulls, upper, mirror)
        if lower[mirror] < 0:
            lower = mirrored(pulls, lower, mirror)
        mirror = lowest_crossed(upper)
    return lower == upper


def images_of(pulls, word):
    """For each mirror, where the word takes the point 1 above it and 0 above all others."""
    images = []
    for i in range(len(pulls)):
        unit = [1 if i == j else 0 for j in range(len(pulls))]
        images.append(moved(pulls, unit, word))
    return images


def moved_by_images(images, heights):
    """The heights of the point behind the word whose images these are."""
    total = [0 for height in heights]
    for height, image in zip(heights, images):
        total = [before + height * part for before, part in zip(total, image)]
    return total


def order_of(pulls, word):
    """How often the word must be written behind itself to mean the same as the empty one; 0 for never."""
    images = images_of(pulls, word)
    trace = sum([image[i] for i, image in enumerate(images)])
    # The trace of what comes back is a sum of as many roots of 1 as there are mirrors. A greater
    # one spares the many uses in which the heights would grow and grow.
    if abs(trace) > len(pulls):
        return 0
    start = first_heights(pulls)
    heights = start
    for times in range(1, HIGHEST_ORDER + 1):
        heights = moved_by_images(images, heights)
        if heights == start:
            return times
    return 0


def one_longer(pulls, level):
    """The points of all words one letter longer than those of the level, each point once."""
    longer = []
    for heights in level:
        for mirror, height in enumerate(heights):
            if height < 0:
                continue
            beyond = mirrored(pulls, heights, mirror)
            # Several words may lead to a point: only the one that ends with the lowest mirror counts.
            if lowest_crossed(beyond) == mirror:
                longer.append(beyond)
    return longer


def how_many_of_length(pulls, k):
    """How many words of length k there are, words that mean the same counted once."""
    level = [first_heights(pulls)]
    for size in range(k):
        level = one_longer(pulls, level)
    return len(level)


def lowest_not_crossed(heights):
    """The lowest mirror that the point lies above, or None."""
    for mirror, height in enumerate(heights):
        if height > 0:
            return mirror
    return None


def longest_word(pulls):
    """The first in order of the shortest words of the longest there is, or None if there is no longest."""
    # Every shortest word can be drawn out to one of the longest: so the lowest letter that
    # lengthens is always the right one.
    heights = first_heights(pulls)
    letters = []
    mirror = lowest_not_crossed(heights)
    while mirror is not None:
        if len(letters) == LONGEST_LENGTH:
            return None
        letters.append(mirror)
        heights = mirrored(pulls, heights, mirror)
        mirror = lowest_not_crossed(heights)
    return letters


def lengths_below(pulls, shortest):
    """The lengths of all words that lie below a shortest word, words that mean the same taken once."""
    lengths = {tuple(first_heights(pulls)): 0}
    for letter in shortest:
        for heights in list(lengths):
            step = 1 if heights[letter] > 0 else -1
            beyond = tuple(mirrored(pulls, heights, letter))
            lengths[beyond] = lengths[heights] + step
    return list(lengths.values())


def answer_begin(sets, o, n, m):
    if not is_table(n, m):
        return [REFUSED]
    sets[o] = pulls_of_table(n, m)
    return [0]


def answer_two_words(call, pulls, a, b):
    """The answer of a call that hands in two words and nothing else."""
    if not is_word(pulls, a) or not is_word(pulls, b):
        return [REFUSED]
    if call == SAME:
        return [1 if heights_behind(pulls, a) == heights_behind(pulls, b) else 0]
    return [1 if lies_below(pulls, a, b) else 0]


def answer_one_word(call, pulls, word):
    """The answer of a call that hands in one word and nothing else."""
    if not is_word(pulls, word):
        return [REFUSED]
    if call == LENGTH:
        return [len(least_word(pulls, word))]
    if call == LEAST:
        return [0] + least_word(pulls, word)
    if call == ENDS:
        return [last_mirrors(pulls, word)]
    return [order_of(pulls, word)]


def answer_count(pulls, k):
    if k > MOST_LETTERS:
        return [REFUSED]
    return [0, how_many_of_length(pulls, k)]


def answer_longest(pulls):
    word = longest_word(pulls)
    if word is None:
        return [NO_LONGEST]
    return [0] + word


def answer_between(pulls, k, word):
    if k > MOST_LETTERS or not is_word(pulls, word):
        return [REFUSED]
    shortest = least_word(pulls, word)
    if len(shortest) > LONGEST_BETWEEN:
        return [REFUSED]
    return [0, lengths_below(pulls, shortest).count(k)]


def answer_call(reader, sets):
    """Reads one call and answers it; a begin changes the sets."""
    call = reader.take_number()
    o = reader.take_number()
    if call == BEGIN:
        n = reader.take_number()
        return answer_begin(sets, o, n, reader.take_row())
    if call in (SAME, BELOW):
        a = reader.take_row()
        return answer_two_words(call, sets[o], a, reader.take_row())
    if call in (LENGTH, LEAST, ENDS, ORDER):
        return answer_one_word(call, sets[o], reader.take_row())
    if call == COUNT:
        return answer_count(sets[o], reader.take_number())
    if call == LONGEST:
        return answer_longest(sets[o])
    if call == BETWEEN:
        k = reader.take_number()
        return answer_between(sets[o], k, reader.take_row())
    raise UnknownCall(f"no call has the number {call}")


def answers(calls):
    """For each call of the list, in order: how many numbers are answered, then these."""
    reader = Reader(calls)
    sets = [[], []]
    given = []
    while not reader.at_end():
        answer = answer_call(reader, sets)
        given.append(len(answer))
        given.extend(answer)
    return given
