"""Rides: the least sums of ways from place to place."""

# More than any ride and more than any two days are apart, so that no days are enough for it.
NO_RIDE = 1000000


def way_table(count, ways):
    """The straight ways alone, from each place to each."""
    table = [[NO_RIDE] * count for i in range(count)]
    for i in range(count):
        table[i][i] = 0
    for way in ways:
        table[way[0]][way[1]] = way[2]
    return table


def ride_table(count, ways):
    """The rides from each place to each; NO_RIDE where there is none."""
    table = way_table(count, ways)
    for between in range(count):
        for i in range(count):
            for j in range(count):
                table[i][j] = min(table[i][j], table[i][between] + table[between][j])
    return table
