"""How the tests ask the program, and what they work out beside it."""

from itertools import product

from raylayers.rays import answers

(START, EXCHANGE, LATER, PAIRS, TABLE, LYING, TOTAL, NEAR, SAME,
 DIFFER, FIND, KINDS, TABLES, ALIKE, FIRST, WITH_PAIRS, STATE) = range(17)

LARGEST = 4294967295


def written(*calls):
    """The calls one behind another; a row within a call is written with its length before it."""
    numbers = []
    for call in calls:
        for part in call:
            if isinstance(part, list):
                numbers.append(len(part))
                numbers.extend(part)
            else:
                numbers.append(part)
    return numbers


def split(told):
    """The answers, each a list by itself."""
    parts = []
    begin = 0
    while begin < len(told):
        end = begin + 1 + told[begin]
        if told[begin] < 1 or end > len(told):
            raise AssertionError(f"no answers, one behind another: {told}")
        parts.append(told[begin + 1:end])
        begin = end
    return parts


def ask(*calls):
    """What each of the calls answers."""
    parts = split(answers(written(*calls)))
    if len(parts) != len(calls):
        raise AssertionError(f"{len(calls)} calls, {len(parts)} answers")
    return parts


def ask_of(word, *calls):
    """What each of the calls answers behind a start with this word."""
    parts = ask((START, word), *calls)
    if parts[0] != [len(word)]:
        raise AssertionError(f"the start with {word} answers {parts[0]}")
    return parts[1:]


def words(steps):
    """All words of so many steps."""
    return [list(word) for word in product((0, 1), repeat=steps)]


def is_closing(word):
    """By counting alone: as many up as down, but for threes."""
    return (word.count(1) - word.count(0)) % 3 == 0


def closing_words(steps):
    """All words of so many steps that close."""
    return [word for word in words(steps) if is_closing(word)]


def all_closing_words():
    """All words of 1 to 8 steps that close."""
    return [word for steps in range(1, 9) for word in closing_words(steps)]


def place(word, layer):
    """Where a layer lies, by climbing to it step by step."""
    height = 0
    for step in range(layer):
        height += 1 if word[step % len(word)] == 1 else -1
    return height % 3


def pairs_by_climbing(word, apart):
    """How many pairs so many apart lie alike, one on, one back."""
    turns = [(place(word, low + apart) - place(word, low)) % 3 for low in range(len(word))]
    return [turns.count(0), turns.count(1), turns.count(2)]


def table_by_climbing(word):
    """How many pairs 1 to n apart lie alike."""
    return [pairs_by_climbing(word, apart)[0] for apart in range(1, len(word) + 1)]


def turns(word):
    """The word begun one step later, opposite, and backwards."""
    return [word[1:] + word[:1], [{0: 1, 1: 0}[step] for step in word], word[::-1]]


def names_by_turning(word):
    """All that turning makes of a word, over and over, until nothing new comes; in order."""
    found = [word]
    for name in found:
        found.extend(other for other in turns(name) if other not in found)
    return sorted(found)
