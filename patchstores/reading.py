"""What steps and trees share when they are read from numbers."""

MOST_FILE_NAME = 9
MOST_TOKEN = 99


def is_file_name(number):
    return 0 <= number <= MOST_FILE_NAME


def is_token(number):
    return 0 <= number <= MOST_TOKEN


# The count is held against the list's length before anything is walked, for it may be as great as 10^18.
def read_tokens(numbers, place, most):
    if place >= len(numbers):
        return None
    count = numbers[place]
    if not 0 <= count <= most or place + 1 + count > len(numbers):
        return None
    tokens = tuple(numbers[place + 1:place + 1 + count])
    if not all([is_token(token) for token in tokens]):
        return None
    return tokens


def write_tokens(tokens):
    return [len(tokens)] + list(tokens)
