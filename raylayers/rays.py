"""The calls on one stacking of layers, and what they answer."""

MOST_STEPS = 8

NO_STEP = -2
NO_WORD = -11
WRONG_NUMBERS = -22
NOT_CLOSING = -33

START = 0

# A call that stands in neither of these two is its number alone.
ROW_CALLS = (0, 8, 9, 10, 13)
PLAIN_NUMBERS = {1: 2, 2: 1, 3: 1, 11: 1, 12: 1, 15: 2}


class Stacking:
    """The object that the calls speak to: it keeps the word."""

    def __init__(self):
        # No start lets a word of no steps in, so the empty row stands for no word yet.
        self.word = []


def positions(word):
    """Where layers 0 to n lie, for a word of n steps."""
    place = 0
    places = [place]
    for step in word:
        # A step down is two on, for behind 2 comes 0 again.
        place = (place + (1 if step == 1 else 2)) % 3
        places.append(place)
    return places


def closes(word):
    """Whether the position behind all the steps is 0 again."""
    return positions(word)[len(word)] == 0


def only_steps(numbers):
    """Whether each number is a step."""
    return all([number in (0, 1) for number in numbers])


def refusal(numbers, fewest, most):
    """What refuses these numbers as a closing word of so many steps; 0 if nothing does."""
    if len(numbers) < fewest or len(numbers) > most or not only_steps(numbers):
        return WRONG_NUMBERS
    if not closes(numbers):
        return NOT_CLOSING
    return 0


def pairs_apart(word, apart):
    """How many pairs so many apart lie alike, one on, one back."""
    layers = len(word)
    places = positions(word)
    counts = [0, 0, 0]
    for lower in range(layers):
        # The word closes, so a layer lies where the one n below it does, however high it is.
        upper = (lower + apart) % layers
        counts[(places[upper] - places[lower]) % 3] += 1
    return counts


def table_of(word):
    """How many pairs 1, 2, and so on to n apart lie alike."""
    return [pairs_apart(word, apart)[0] for apart in range(1, len(word) + 1)]


def with_length(row):
    """A row with how many numbers it has before it."""
    return [len(row)] + row


def start(stacking, numbers):
    """Make the numbers the word."""
    refused = refusal(numbers, 1, MOST_STEPS)
    if refused != 0:
        return [refused]
    stacking.word = list(numbers)
    return [len(numbers)]


def exchange(stacking, numbers):
    """Let two steps each become what the other was."""
    word = list(stacking.word)
    one = numbers[0]
    other = numbers[1]
    if one >= len(word) or other >= len(word):
        return [NO_STEP]
    word[one] = stacking.word[other]
    word[other] = stacking.word[one]
    stacking.word = word
    return with_length(word)


def later(stacking, numbers):
    """Begin the word some steps later."""
    word = stacking.word
    first = numbers[0]
    if first >= len(word):
        return [WRONG_NUMBERS]
    stacking.word = word[first:] + word[:first]
    return with_length(stacking.word)


def pairs(stacking, numbers):
    """Tell the pairs so many apart."""
    return pairs_apart(stacking.word, numbers[0])


def table(stacking, numbers):
    """Tell the table."""
    return with_length(table_of(stacking.word))


def lying(stacking, numbers):
    """Tell how many of layers 0 to n - 1 lie at each position."""
    counts = [0, 0, 0]
    for place in positions(stacking.word)[:len(stacking.word)]:
        counts[place] += 1
    return with_length(counts)


def total(stacking, numbers):
    """Tell the table's numbers, together."""
    return [sum(table_of(stacking.word))]


def near(stacking, numbers):
    """Tell how few apart, from 1 on, some pair lies alike."""
    apart = 1
    # This ends, for n apart all pairs lie alike.
    while pairs_apart(stacking.word, apart)[0] == 0:
        apart += 1
    return [apart]


def same(stacking, numbers):
    """Tell whether another word of as many steps has the same table."""
    steps = len(stacking.word)
    refused = refusal(numbers, steps, steps)
    if refused != 0:
        return [refused]
    return [1 if table_of(numbers) == table_of(stacking.word) else 0]


CALLS = {
    0: start,
    1: exchange,
    2: later,
    3: pairs,
    4: table,
    5: lying,
    6: total,
    7: near,
    8: same,
}


def answer(stacking, number, numbers):
    """What one call answers."""
    if number != START and len(stacking.word) == 0:
        return [NO_WORD]
    if number not in CALLS:
        raise NotImplementedError(f"call {number} is not written yet")
    return CALLS[number](stacking, numbers)


def end_of_call(calls, begin):
    """Where the call behind the one that begins here begins."""
    number = calls[begin]
    if number in ROW_CALLS:
        return begin + 2 + calls[begin + 1]
    return begin + 1 + PLAIN_NUMBERS.get(number, 0)


def numbers_of_call(calls, begin):
    """A copy of what is handed to the call that begins here, without a row's length."""
    ahead = 2 if calls[begin] in ROW_CALLS else 1
    return calls[begin + ahead:end_of_call(calls, begin)]


def answers(calls):
    """What the calls answer, one behind another, each with how many numbers that is before it."""
    stacking = Stacking()
    told = []
    begin = 0
    while begin < len(calls):
        told.extend(with_length(answer(stacking, calls[begin], numbers_of_call(calls, begin))))
        begin = end_of_call(calls, begin)
    return told
