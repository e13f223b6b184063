"""Linear equations over whole numbers, solved without a fraction on the way."""


# Every entry is a minor of the first table, so the division by the last pivot leaves no rest.
def clear_column(table, column, last_pivot):
    pivot_row = table[column]
    pivot = pivot_row[column]
    cleared = []
    for number, row in enumerate(table):
        if number == column:
            cleared.append(row)
        else:
            factor = row[column]
            cleared.append([(pivot * here - factor * there) // last_pivot
                            for here, there in zip(row, pivot_row)])
    return cleared


# Answers the numerators of the unknowns and their common denominator, the determinant.
# No rows are exchanged: it is called for tables alone whose leading minors are all above 0.
def solve(rows, right_side):
    table = [row + [right] for row, right in zip(rows, right_side)]
    pivot = 1
    for column in range(len(rows)):
        table = clear_column(table, column, pivot)
        pivot = table[column][column]
    return ([row[-1] for row in table], pivot)
