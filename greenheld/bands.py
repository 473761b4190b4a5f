"""Bands of a line of crossings: when to leave so that all are green, one way and both ways."""

from greenheld.waves import all_offsets


def arrivals(line, start):
    """The ticks at which one who leaves the first crossing in tick start is at each."""
    at = start
    found = []
    for _, time in line:
        at += time
        found.append(at)
    return tuple(found)


def passes(line, greens, L, offsets, start):
    """Whether all crossings are green as one who leaves in tick start comes."""
    return all([(at - offsets[crossing] - begin) % L < length
                for (crossing, _), (begin, length), at in zip(line, greens, arrivals(line, start))])


def band(line, greens, L, offsets):
    """The starts from 0 to L - 1 by which one passes."""
    return tuple([start for start in range(L) if passes(line, greens, L, offsets, start)])


def band_bound(greens):
    """How many starts a band has at most: the least length of a green."""
    return min([length for _, length in greens])


def offsets_of_line(m, line, greens, L):
    """Offsets with the greatest band: each green begins as who leaves with the first one's begin comes."""
    first = greens[0][0]
    offsets = [0] * m
    for k, at in enumerate(arrivals(line, first)):
        offsets[line[k][0]] = (at - greens[k][0]) % L
    return tuple(offsets)


def back_line(line):
    """The line that passes the crossings from the last to the first."""
    times = [0] + [time for _, time in line[:0:-1]]
    return tuple([(crossing, time) for (crossing, _), time in zip(line[::-1], times)])


def both_bands(line, greens, backs, L, offsets):
    """The numbers of starts of the bands there and back."""
    return (len(band(line, greens, L, offsets)), len(band(back_line(line), backs, L, offsets)))


def offsets_to_try(m, line, L):
    """All offsets of m crossings, with 0 for the first of the line and for those that it does not pass."""
    return all_offsets(m, [crossing for crossing, _ in line[1:]], L)


def best_both(m, line, greens, backs, L):
    """The greatest sum of both numbers of starts, and the least offsets that have it."""
    best = None
    for offsets in offsets_to_try(m, line, L):
        total = sum(both_bands(line, greens, backs, L, offsets))
        if best is None or total > best[0]:
            best = (total, offsets)
    return best


def full_both(line, greens, backs, L):
    """Whether some offsets make both bands as great as each can be alone."""
    m = max([crossing for crossing, _ in line]) + 1
    full = (band_bound(greens), band_bound(backs))
    for offsets in offsets_to_try(m, line, L):
        if both_bands(line, greens, backs, L, offsets) == full:
            return True
    return False


def full_paper(line, greens, backs, L):
    """None if greens of one length there and one back let full waves both ways, else the first place that does not."""
    between = [back[0] - there[0] for there, back in zip(greens, backs[::-1])]
    for k, way in enumerate(arrivals(line, 0)):
        rest = (between[k] - between[0] + 2 * way) % L
        if rest != 0:
            return (k, rest)
    return None
