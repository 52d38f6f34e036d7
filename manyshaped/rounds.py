"""Rounds: how the states of a system are parted, step by step."""

from manyshaped.value import grouped, image


def rounds_until(s, most):
    """The lists of ranks in the rounds from 0 to most, without those behind the last one that parts."""
    rounds = [[0] * len(s[1])]
    while len(rounds) <= most:
        ranks = next_ranks(s, rounds[-1])
        if ranks == rounds[-1]:
            break
        rounds.append(ranks)
    return rounds


def last_ranks(s):
    """The list of the ranks that the states have in the end."""
    return rounds_until(s, len(s[1]))[-1]


def next_ranks(s, ranks):
    """The list of the ranks in the round behind the one with these ranks."""
    shape, values = s
    return numbered([(rank, image(shape, ranks, value)) for rank, value in zip(ranks, values)])


def numbered(keys):
    """The list that has for each key how many different keys are less."""
    numbers = [0] * len(keys)
    for number, rows in enumerate(grouped([(key, x) for x, key in enumerate(keys)])):
        for row in rows:
            numbers[row[1]] = number
    return numbers


def first_with_each(numbers):
    """The list that has for each of the numbers, which are those from 0 on, the first place where it stands."""
    return [numbers.index(number) for number in range(len(set(numbers)))]
