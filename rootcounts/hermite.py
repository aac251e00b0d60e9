"""Hermite's matrix and its inertia, over whole numbers."""

from rootcounts.root_sums import scaled_power_sums


def hermite_matrix(polynomial):
    """Answer a matrix of whole numbers that is congruent to the Hermite matrix."""
    size = len(polynomial) - 1
    # row r of the Hermite matrix is taken times lead ^ r, column c times lead ^ c
    sums = scaled_power_sums(polynomial, 2 * size - 2)
    return [sums[row:row + size] for row in range(size)]


def has_entry(matrix):
    """Answer whether one of the entries isn't 0."""
    return any([any(row) for row in matrix])


def place_of_diagonal_entry(matrix):
    """Answer the first place on the diagonal where the entry isn't 0, the size if there is none."""
    place = 0
    while place < len(matrix) and matrix[place][place] == 0:
        place += 1
    return place


def added(matrix):
    """Answer a congruent matrix with an entry on the diagonal, for one that has entries but none there."""
    row = 0
    while not any(matrix[row]):
        row += 1
    column = 0
    while matrix[row][column] == 0:
        column += 1
    result = [list(entries) for entries in matrix]
    # the entry on the diagonal becomes twice the one that was found
    for place in range(len(result)):
        result[row][place] += result[column][place]
    for place in range(len(result)):
        result[place][row] += result[place][column]
    return result


def moved(matrix, place):
    """Answer the congruent matrix in which row and column place stand first."""
    order = [place] + [other for other in range(len(matrix)) if other != place]
    return [[matrix[row][column] for column in order] for row in order]


def reduced(matrix, divisor):
    """Answer the rest of a matrix when its first row and column have been cleared.

    The divisor is the corner of the step before, 1 in the first step. It divides
    every entry, for all of them are minors of the first matrix (Bareiss).
    """
    corner = matrix[0][0]
    rest = []
    for row in matrix[1:]:
        cleared = [corner * entry - row[0] * above for entry, above in zip(row, matrix[0])]
        rest.append([entry // divisor for entry in cleared[1:]])
    return rest


def inertia(matrix):
    """Answer how many entries above 0 and below 0 a congruent diagonal matrix has."""
    positive = 0
    negative = 0
    last = 1
    while has_entry(matrix):
        if place_of_diagonal_entry(matrix) == len(matrix):
            matrix = added(matrix)
        matrix = moved(matrix, place_of_diagonal_entry(matrix))
        corner = matrix[0][0]
        # the entry of the diagonal matrix is corner / last
        if corner * last > 0:
            positive += 1
        else:
            negative += 1
        matrix = reduced(matrix, last)
        last = corner
    return (positive, negative)
