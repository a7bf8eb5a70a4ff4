"""Words of signs: repeats, the plain word, words out of lists."""

from threelanes.checks import are_unlike, is_list, is_row
from threelanes.errors import BadWord, Misfit, TooMany
from threelanes.wants import want_number

MOST_SIGNS = 2000
MOST_TO_COUNT = 8
MOST_TO_CHOOSE = 100
ENOUGH_SIGNS = 4


def is_word(value):
    """Whether any value is a word."""
    return is_row(value, 0, None)


def plain_word(many):
    """The first signs of the plain word."""
    want_number(many, 0, MOST_SIGNS, "many")
    signs = []
    ones = 0
    row = [0]
    while len(signs) < many:
        number = len(row)
        # Written with two figures, a number is its half and one more figure.
        row.append((row[number // 2] + number) % 2)
        if row[number] == 1:
            ones += 1
        else:
            signs.append(ones)
            ones = 0
    return tuple(signs)


def first_repeat(word):
    """The least repeat of a word; None if it has none."""
    if not is_word(word):
        raise BadWord("word")
    repeats = [(_first_begin(word, half), half) for half in range(1, len(word) // 2 + 1)]
    return min([repeat for repeat in repeats if repeat[0] is not None], default=None)


def is_repeat(row):
    """Whether a row is some items, one at least, two times in succession."""
    half, rest = divmod(len(row), 2)
    return half > 0 and rest == 0 and row[:half] == row[half:]


def count_words(lists):
    """How many words out of the lists have no repeat."""
    _want_lists(lists)
    if len(lists) > MOST_TO_COUNT:
        raise TooMany("lists", MOST_TO_COUNT)
    shared = _shared_signs(lists)
    counts = _counted_blocks(len(lists))
    return sum([count * _words_of(blocks, shared) for blocks, count in counts.items()])


def chosen_word(lists):
    """A word out of the lists without a repeat."""
    _want_lists(lists)
    if not all([len(signs) >= ENOUGH_SIGNS for signs in lists]):
        raise Misfit("lists")
    if len(lists) > MOST_TO_CHOOSE:
        raise TooMany("lists", MOST_TO_CHOOSE)
    word = []
    nexts = [0]
    while len(word) < len(lists):
        signs = lists[len(word)]
        at = nexts.pop()
        if at == len(signs):
            word.pop()
        else:
            nexts.append(at + 1)
            word.append(signs[at])
            if _ends_with_repeat(word):
                word.pop()
            else:
                nexts.append(0)
    return tuple(word)


def _want_lists(lists):
    """Raises BadWord("lists") for no list of lots of signs."""
    if not is_list(lists) or not all([are_unlike(signs, 0) for signs in lists]):
        raise BadWord("lists")


def _first_begin(word, half):
    """The first place from which on so many signs stand twice; None if there is none."""
    alike = 0
    for at in range(half, len(word)):
        alike = alike + 1 if word[at] == word[at - half] else 0
        if alike == half:
            return at - 2 * half + 1
    return None


def _counted_blocks(many):
    """How often words count whose places of a block are alike, for any blocks of so many places."""
    # All words count once. For each repeat those that have it are taken away again, as they counted till then;
    # so each word without a repeat counts once in the end, and each other one not at all.
    counts = {tuple(range(many)): 1}
    for half in range(1, many // 2 + 1):
        for begin in range(many - 2 * half + 1):
            for blocks, count in list(counts.items()):
                if count != 0:
                    merged = _merged(blocks, begin, half)
                    counts[merged] = counts.get(merged, 0) - count
    return counts


def _merged(blocks, begin, half):
    """The blocks, told by their least places, in which the places of a repeat are alike, too."""
    for at in range(begin, begin + half):
        least, greatest = sorted([blocks[at], blocks[at + half]])
        blocks = tuple([least if block == greatest else block for block in blocks])
    return blocks


def _shared_signs(lists):
    """For each lot of places, one at least, how many signs stand in all of their lists."""
    shared = {}
    for at, signs in enumerate(lists):
        own = {sign: True for sign in signs}
        for places in list(shared):
            shared[places + (at,)] = [sign for sign in shared[places] if sign in own]
        shared[(at,)] = signs
    return {places: len(shared[places]) for places in shared}


def _words_of(blocks, shared):
    """How many words have the same sign at all places of a block."""
    many = 1
    for block in sorted(set(blocks)):
        many = many * shared[tuple([at for at, own in enumerate(blocks) if own == block])]
    return many


def _ends_with_repeat(word):
    """Whether the last signs of a word are those ahead of them."""
    return any([is_repeat(word[len(word) - 2 * half :]) for half in range(1, len(word) // 2 + 1)])
