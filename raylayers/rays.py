"""The calls on one stacking of layers, and what they answer."""

MOST_STEPS = 8

NO_STEP = -2
SAME_TABLE = -6
NO_WORD = -11
WRONG_NUMBERS = -22
NO_CLOSING_WORD = -33

START = 0

# A call that stands in neither of these two is its number alone.
ROW_CALLS = (0, 8, 9, 10, 13)
PLAIN_NUMBERS = {1: 2, 2: 1, 3: 1, 11: 1, 12: 1, 15: 2}


class Stacking:
    """The object that the calls speak to: it keeps the word."""

    def __init__(self):
        # No start lets a word of no steps in, so the empty row stands for no word yet.
        self.word = []


def positions(word):
    """Where layers 0 to n lie, for a word of n steps."""
    place = 0
    places = [place]
    for step in word:
        # A step down is two on, for behind 2 comes 0 again.
        place = (place + (1 if step == 1 else 2)) % 3
        places.append(place)
    return places


def closes(word):
    """Whether the position behind all the steps is 0 again."""
    return positions(word)[len(word)] == 0


def only_steps(numbers):
    """Whether each number is a step."""
    return all([number in (0, 1) for number in numbers])


def is_length(number):
    """Whether a word may have so many steps."""
    return number >= 1 and number <= MOST_STEPS


def is_word(numbers):
    """Whether these are the steps of a word, be it one that closes or not."""
    return is_length(len(numbers)) and only_steps(numbers)


def refusal(numbers):
    """What refuses these numbers as a word that closes; 0 if nothing does."""
    if not is_word(numbers):
        return WRONG_NUMBERS
    if not closes(numbers):
        return NO_CLOSING_WORD
    return 0


def refusal_beside(word, numbers):
    """What refuses these numbers as a closing word of as many steps as this one; 0 if nothing does."""
    if len(numbers) != len(word):
        return WRONG_NUMBERS
    return refusal(numbers)


def closing_words(steps):
    """All closing words of so many steps, in order."""
    words = [[]]
    while len(words[0]) < steps:
        words = [[0] + word for word in words] + [[1] + word for word in words]
    return [word for word in words if closes(word)]


def begun_later(word, steps):
    """The word begun so many steps later."""
    return word[steps:] + word[:steps]


def held(word, way):
    """What this way of holding it makes of a word."""
    made = begun_later(word, way % len(word))
    if way // len(word) in (1, 3):
        made = [1 - step for step in made]
    if way // len(word) in (2, 3):
        made = list(reversed(made))
    return made


def names_of(word):
    """What the ways make of a word, way by way: a name may stand there more than once."""
    return [held(word, way) for way in range(4 * len(word))]


def first_name(word):
    """The first, in order, of a word's names."""
    return min(names_of(word))


def pairs_apart(word, apart):
    """How many pairs so many apart lie alike, one on, one back."""
    layers = len(word)
    places = positions(word)
    counts = [0, 0, 0]
    for lower in range(layers):
        # The word closes, so a layer lies where the one n below it does, however high it is.
        upper = (lower + apart) % layers
        counts[(places[upper] - places[lower]) % 3] += 1
    return counts


def table_of(word):
    """How many pairs 1, 2, and so on to n apart lie alike."""
    return [pairs_apart(word, apart)[0] for apart in range(1, len(word) + 1)]


def with_length(row):
    """A row with how many numbers it has before it."""
    return [len(row)] + row


def start(stacking, numbers):
    """Make the numbers the word."""
    refused = refusal(numbers)
    if refused != 0:
        return [refused]
    stacking.word = list(numbers)
    return [len(numbers)]


def exchange(stacking, numbers):
    """Let two steps each become what the other was."""
    word = list(stacking.word)
    one = numbers[0]
    other = numbers[1]
    if one >= len(word) or other >= len(word):
        return [NO_STEP]
    word[one] = stacking.word[other]
    word[other] = stacking.word[one]
    stacking.word = word
    return with_length(word)


def later(stacking, numbers):
    """Begin the word some steps later."""
    if numbers[0] >= len(stacking.word):
        return [WRONG_NUMBERS]
    stacking.word = begun_later(stacking.word, numbers[0])
    return with_length(stacking.word)


def pairs(stacking, numbers):
    """Tell the pairs so many apart."""
    return pairs_apart(stacking.word, numbers[0])


def table(stacking, numbers):
    """Tell the table."""
    return with_length(table_of(stacking.word))


def lying(stacking, numbers):
    """Tell how many of layers 0 to n - 1 lie at each position."""
    counts = [0, 0, 0]
    for place in positions(stacking.word)[:len(stacking.word)]:
        counts[place] += 1
    return with_length(counts)


def total(stacking, numbers):
    """Tell the table's numbers, together."""
    return [sum(table_of(stacking.word))]


def near(stacking, numbers):
    """Tell how few apart, from 1 on, some pair lies alike."""
    apart = 1
    # This ends, for n apart all pairs lie alike.
    while pairs_apart(stacking.word, apart)[0] == 0:
        apart += 1
    return [apart]


def same(stacking, numbers):
    """Tell whether another word of as many steps has the same table."""
    refused = refusal_beside(stacking.word, numbers)
    if refused != 0:
        return [refused]
    return [1 if table_of(numbers) == table_of(stacking.word) else 0]


def differ(stacking, numbers):
    """Tell the fewest apart at which the table of another word of as many steps differs."""
    refused = refusal_beside(stacking.word, numbers)
    if refused != 0:
        return [refused]
    own_table = table_of(stacking.word)
    for apart, alike_pairs in enumerate(table_of(numbers), start=1):
        if alike_pairs != own_table[apart - 1]:
            return [apart]
    return [SAME_TABLE]


def find(stacking, numbers):
    """Tell the first word, in order, that has these numbers as its table."""
    if not is_length(len(numbers)):
        return [WRONG_NUMBERS]
    for word in closing_words(len(numbers)):
        if table_of(word) == numbers:
            return with_length(word)
    return [NO_CLOSING_WORD]


def kinds(stacking, numbers):
    """Tell how many closing words of so many steps there are, alike ones counted once."""
    if not is_length(numbers[0]):
        return [WRONG_NUMBERS]
    # Words are alike just if they have one first name.
    return [len(set([tuple(first_name(word)) for word in closing_words(numbers[0])]))]


def tables(stacking, numbers):
    """Tell how many different tables closing words of so many steps have."""
    if not is_length(numbers[0]):
        return [WRONG_NUMBERS]
    return [len(set([tuple(table_of(word)) for word in closing_words(numbers[0])]))]


def alike(stacking, numbers):
    """Tell whether another word, of whatever many steps, is this one held otherwise."""
    if not is_word(numbers):
        return [WRONG_NUMBERS]
    return [1 if numbers in names_of(stacking.word) else 0]


def first(stacking, numbers):
    """Tell the word's first name."""
    return with_length(first_name(stacking.word))


def with_pairs(stacking, numbers):
    """Tell how many closing words of as many steps have just so many pairs so far apart alike."""
    counts = [pairs_apart(word, numbers[0])[0] for word in closing_words(len(stacking.word))]
    return [counts.count(numbers[1])]


def state(stacking, numbers):
    """Tell the word."""
    return with_length(stacking.word)


CALLS = {
    0: start,
    1: exchange,
    2: later,
    3: pairs,
    4: table,
    5: lying,
    6: total,
    7: near,
    8: same,
    9: differ,
    10: find,
    11: kinds,
    12: tables,
    13: alike,
    14: first,
    15: with_pairs,
    16: state,
}


def answer(stacking, number, numbers):
    """What one call answers."""
    if number != START and len(stacking.word) == 0:
        return [NO_WORD]
    return CALLS[number](stacking, numbers)


def end_of_call(calls, begin):
    """Where the call behind the one that begins here begins."""
    number = calls[begin]
    if number in ROW_CALLS:
        return begin + 2 + calls[begin + 1]
    return begin + 1 + PLAIN_NUMBERS.get(number, 0)


def numbers_of_call(calls, begin):
    """A copy of what is handed to the call that begins here, without a row's length."""
    ahead = 2 if calls[begin] in ROW_CALLS else 1
    return calls[begin + ahead:end_of_call(calls, begin)]


def answers(calls):
    """What the calls answer, one behind another, each with how many numbers that is before it."""
    stacking = Stacking()
    told = []
    begin = 0
    while begin < len(calls):
        told.extend(with_length(answer(stacking, calls[begin], numbers_of_call(calls, begin))))
        begin = end_of_call(calls, begin)
    return told
