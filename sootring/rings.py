"""The most cells that can be ringed at once, with weights that show that no more can."""

from sootring.coal import numbered
from sootring.pairing import check_paired, paired

# Ringed cells and the ties of all other points come of any pairing so: each cell is turned up `low` times (down where
# that is below 0), until all ringed cells can be turned up at once; let `high` be one more than `low` for these, and
# the same for the others. A tie that is side 1, 3 or 5 of one cell and side 0, 2 or 4 of another is then left
# `low` of the other less `high` of the one times, and once more where the pairing has it; outside the coal both
# count 0. That must not fall below 0, nor may any `high` lie below its `low`; each choice of numbers that keeps to
# this tells cells ringed at once, as many as all `high` less all `low` come to.
#
# So there are bounds on differences alone, and most is asked of their sum. What shows that no more can be had is a
# flow: it goes over ties, from the cell of which a tie is side 1, 3 or 5 to the one of which it is side 0, 2 or 4, and
# goes on, so that as much leaves a cell as came to it, at least 1 for each cell. It costs 1 to go over a tie that the
# pairing has. The cheapest such flow costs just as much as most cells can be ringed.

OUTSIDE = 0


def entry_of(cell):
    """The place where flow comes into a cell."""
    return 2 * cell + 1


def exit_of(cell):
    """The place where flow leaves a cell."""
    return 2 * cell + 2


def arcs_of(coal, pairing):
    """Where flow may go: over each tie, in their order, then through each cell; tuples (start, end, cost)."""
    ties = coal.ties()
    starts = [OUTSIDE for tie in ties]
    ends = [OUTSIDE for tie in ties]
    for cell in range(coal.many()):
        for side, number in enumerate(coal.sides(cell)):
            if side % 2 == 1:
                starts[number] = exit_of(cell)
            else:
                ends[number] = entry_of(cell)
    kept = numbered(pairing)
    over = [(starts[number], ends[number], 1 if tie in kept else 0) for number, tie in enumerate(ties)]
    return over + [(entry_of(cell), exit_of(cell), 0) for cell in range(coal.many())]


def steps_left(arcs, flow):
    """All ways to change a flow by one along an arc: tuples (start, end, cost, number of the arc, change)."""
    found = []
    for number, arc in enumerate(arcs):
        found.append((arc[0], arc[1], arc[2], number, 1))
        if flow[number] > 0:
            found.append((arc[1], arc[0], -arc[2], number, -1))
    return found


def cheapest_ways(steps, start):
    """Dicts of what the cheapest way from the start to each place costs, and of its last step."""
    costs = {start: 0}
    last_steps = {}
    found_better = True
    while found_better:
        found_better = False
        for step in steps:
            if step[0] not in costs:
                continue
            cost = costs[step[0]] + step[2]
            if step[1] not in costs or cost < costs[step[1]]:
                costs[step[1]] = cost
                last_steps[step[1]] = step
                found_better = True
    return (costs, last_steps)


def send_one(arcs, flow, start, end):
    """Change the flow so that one more goes from the start to the end, as cheaply as can be."""
    # There always is a way: over three ties flow may come to a cell, and over three leave it, so no group of places
    # can only be left, or only be come to, and all hang together.
    last_steps = cheapest_ways(steps_left(arcs, flow), start)[1]
    place = end
    while place != start:
        step = last_steps[place]
        flow[step[3]] = flow[step[3]] + step[4]
        place = step[0]


def cheapest_flow(arcs, many):
    """The cheapest flow that goes on from each of so many cells; through the cells is only what goes beyond that."""
    flow = [0 for arc in arcs]
    for cell in range(many):
        # A cheapest way on top of a cheapest flow leaves no round of steps that would make it cheaper.
        send_one(arcs, flow, exit_of(cell), entry_of(cell))
    return flow


def arcs_with_room(arcs, flow):
    """The numbers of the arcs that cost more than the cheapest way from their start to their end."""
    # The costs from the outside, taken below 0, are the numbers `low` at the entries and `high` at the exits.
    costs = cheapest_ways(steps_left(arcs, flow), OUTSIDE)[0]
    return [number for number, arc in enumerate(arcs) if costs[arc[0]] + arc[2] > costs[arc[1]]]


def weights_by(coal, flow):
    """A whole number for each point, such that those of each tie's two points come to the flow over it."""
    # Round a cell they fit together, as just as much comes to it over its sides 0, 2 and 4 as leaves it.
    numbers = numbered(coal.ties())
    known = {0: 0}
    waiting = [0]
    while waiting:
        here = waiting.pop()
        for there in coal.near(here):
            if there not in known:
                tie = (min(here, there), max(here, there))
                known[there] = flow[numbers[tie]] - known[here]
                waiting.append(there)
    return [known[point] for point in range(len(known))]


def most_ringed(coal):
    """As many cells as can be ringed at once, the ties that pair all other points, and weights of the points."""
    check_paired(coal)
    ties = coal.ties()
    arcs = arcs_of(coal, paired(coal)[1])
    flow = cheapest_flow(arcs, coal.many())
    room = arcs_with_room(arcs, flow)
    cells = [number - len(ties) for number in room if number >= len(ties)]
    left = [ties[number] for number in room if number < len(ties)]
    return (cells, left, weights_by(coal, flow))
