"""How answers are put together of numbers."""

WORDS_FIVE = 5


def yes_or_no(held):
    return 1 if held else 0


def counted(numbers):
    return [len(numbers)] + numbers


def counted_pairs(pairs):
    numbers = [len(pairs)]
    for pair in pairs:
        numbers.extend(pair)
    return numbers


# There are at most five parties and five offices: who has fewer of them fills up with 0.
def in_five(numbers):
    return numbers + [0 for missing in range(WORDS_FIVE - len(numbers))]
