"""How many ways there are over a graph, and how often a tree lies in it, all modulo 2 ** 64.

A graph is a list of rows, one for each point: row u holds 1 at v if u and v are neighbours, else 0.
"""

# This is 2 ** 64.
LIMIT = 18446744073709551616


def sum_of_products(row, other):
    """The sum of the products of what stands at the same place in both rows."""
    return sum([one * two for one, two in zip(row, other)]) % LIMIT


def rows_times(rows, row):
    """The sum of products of each of the rows with the row."""
    return [sum_of_products(each, row) for each in rows]


def ways_joined(first, second):
    """The ways that go on by the second where those by the first end, told like these for each two points."""
    # There are as many ways back as there, so a row of the second also tells the ways that end there.
    return [rows_times(second, row) for row in first]


def ways_of_none(n, point):
    """The ways of no steps from the point to each of n."""
    return [1 if other == point else 0 for other in range(n)]


def ways_over(joined, k):
    """For each two points the number of ways of k steps from one to the other."""
    n = len(joined)
    found = [ways_of_none(n, point) for point in range(n)]
    doubled = joined
    while k > 0:
        if k % 2 == 1:
            found = ways_joined(found, doubled)
        doubled = ways_joined(doubled, doubled)
        k = k // 2
    return found


def count_walks(joined, k):
    """How many ways of k steps there are."""
    return sum([sum(row) for row in ways_over(joined, k)]) % LIMIT


def count_circles(joined, k):
    """How many ways of k steps end where they began."""
    found = ways_over(joined, k)
    return sum([found[point][point] for point in range(len(found))]) % LIMIT


def products(row, other):
    """The products of what stands at the same place in both rows."""
    return [one * two % LIMIT for one, two in zip(row, other)]


def one_each(joined):
    """One way for each point."""
    return [1 for row in joined]


def count_trees(joined, hung):
    """How often the tree lies in the graph whose point i + 1 hangs on hung[i], always one before it."""
    # For each point of the tree: in how many ways what hangs on it can be put if it lies on each point.
    ways = [one_each(joined) for point in range(len(hung) + 1)]
    # Each hangs on one before it, so from the last on nothing more comes to hang on the one at hand.
    for point in range(len(hung), 0, -1):
        above = hung[point - 1]
        ways[above] = products(ways[above], rows_times(joined, ways[point]))
    return sum(ways[0]) % LIMIT
