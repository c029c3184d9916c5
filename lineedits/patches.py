"""The least patch of one text to another."""


# The least patch keeps just as many lines as both texts have in common: to
# keep two next lines that are the same never loses one of these, and else it
# goes where as many are left. So its cost needs no patch made.
def patch_cost(first, second):
    return len(first) + len(second) - 2 * how_many_in_common(first, second)


def how_many_in_common(first, second):
    # above[k]: of the lines of first up to now and the first k of second.
    above = [0] * (len(second) + 1)
    for line in first:
        row = [0]
        for k, other in enumerate(second):
            if line == other:
                row.append(above[k] + 1)
            else:
                row.append(max(row[k], above[k + 1]))
        above = row
    return above[len(second)]
