"""Shortest codes: how long the code of each count is, so that all together are shortest."""

from heapwright.tallies import Tally


def codes(counts, *, kind="left"):
    """Tell how often each count was within one put together, the sum of counts by these, and the work; raise NoKind."""
    heap = Tally(kind)
    within = {}
    for place, count in enumerate(counts):
        heap.put((count, place))
        within[place] = [place]
    times = [0] * len(counts)
    # Each turn leaves one fewer, so the tickets behind those of the list are just as many as the turns.
    for ticket in range(len(counts), 2 * len(counts) - 1):
        one, other = heap.take(), heap.take()
        within[ticket] = within[one[1]] + within[other[1]]
        for place in within[ticket]:
            times[place] += 1
        heap.put((one[0] + other[0], ticket))
    return times, sum([count * many for count, many in zip(counts, times)]), heap.work
