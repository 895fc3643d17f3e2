"""The form of a graph: of all graphs that are the same as it, the one with the least code.

A graph is a list of rows, one for each point: row u holds 1 at v if u and v are neighbours, else 0.

The points are put into an order one by one. A state says what that has come to: for each point not
yet placed, which of those placed are its neighbours, as a number in base two whose first digit is for
the first one placed; for each placed point, PLACED. The number of the point that is placed next is the
next row of the code, so at each step only the points with the least number are gone on with.
"""

PLACED = -1


def state_after(joined, state, point):
    """The state when the point is placed next."""
    row = joined[point]
    after = []
    for other in range(len(state)):
        if other == point or state[other] == PLACED:
            after.append(PLACED)
        else:
            after.append(state[other] * 2 + row[other])
    return tuple(after)


def least_unplaced(state):
    """The least number of a point not yet placed in the state."""
    return min([number for number in state if number != PLACED])


def orders_after(joined, orders):
    """The orders, by their states, with one more point, of which the code so far is least."""
    least = min([least_unplaced(state) for state in orders])
    longer = {}
    for state in orders:
        for point in range(len(state)):
            if state[point] == least:
                # Orders that come to one state have the same ways to go on, so one of them is enough.
                longer.setdefault(state_after(joined, state, point), orders[state] + [point])
    return longer


def least_order(joined):
    """An order of the points in which the graph has the least code."""
    start = tuple([0 for row in joined])
    orders = {start: []}
    for placed in range(len(joined)):
        orders = orders_after(joined, orders)
    # With every point placed there is one state alone.
    return list(orders.values())[0]


def reordered_row(row, order):
    """The row of a point, the other points standing in the order."""
    return [row[other] for other in order]


def form_of(joined):
    """The graph's form, in new lists."""
    order = least_order(joined)
    return [reordered_row(joined[point], order) for point in order]
