"""Taking the list that is handed in apart into its calls."""

CREATE = 0
SET_POLYNOMIAL = 1

# at place n: how many numbers call n has behind its own number, without its row
PLAIN_NUMBERS = (0, 2, 1, 1, 3, 1, 1, 1, 5, 3, 3, 3, 1, 2, 3, 2, 3, 2, 1, 1, 1, 0)


def read_call(calls, start):
    """Answer the number and the arguments of the call at a place, and the place behind it.

    The row of set_polynomial is its last argument, as a list.
    """
    number = calls[start]
    end = start + 1 + PLAIN_NUMBERS[number]
    arguments = calls[start + 1:end]
    if number == SET_POLYNOMIAL:
        row_start = end + 1
        end = row_start + calls[row_start - 1]
        arguments.append(calls[row_start:end])
    return (number, arguments, end)


def read_calls(calls):
    """Answer the calls in order, each as its number and its arguments."""
    found = []
    place = 0
    while place < len(calls):
        number, arguments, place = read_call(calls, place)
        found.append((number, arguments))
    return found
