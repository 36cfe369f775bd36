"""The max-plus and the min-plus convolution of curves."""

from plantrace.curves import first_values, gain, is_slower, reach, tabulated


def max_plus(first, second):
    """The greatest sum of both curves' values over all splits of a point."""
    if is_slower(first, second):
        return convolution(second, first, 1)
    return convolution(first, second, 1)


def min_plus(first, second):
    """The least sum of both curves' values over all splits of a point."""
    if is_slower(second, first):
        return convolution(second, first, -1)
    return convolution(first, second, -1)


def convolution(lead, other, sign):
    """The curve of the best sums, by the sign the greatest or the least ones.

    In the long run the lead has the better rate or the same one. So where both are
    periodic, a common period of points is as well spent on the lead, and a split
    counts only if the lead is in its transient part (early), or if the other one is
    less than a common period behind its own (late).
    """
    start, size = len(lead[1]), len(lead[2])
    _, common = reach((lead, other))
    wide = len(other[1]) + common
    late = late_sums(lead, other, sign, wide)
    if start == 0:
        return tabulated([sign * best for best in late], size)
    early = early_sums(lead, other, sign)
    end = start + wide
    if is_slower(lead, other) or is_slower(other, lead):
        end = overtaken(early, late, lead, other, sign)
        common = size
    many = end + common + 1
    early = continued(early, len(other[2]), sign * sum(other[2]), many)
    late = continued(late, size, sign * sum(lead[2]), many - start)
    behind = [max(one, two) for one, two in zip(early[start:], late)]
    return tabulated([sign * best for best in early[:start] + behind], common)


def early_sums(lead, other, sign):
    """The best sums, times the sign, with the lead in its transient part, until they are periodic."""
    start = len(lead[1])
    many = start + len(other[1]) + len(other[2])
    heads = [sign * height for height in first_values(lead, start)]
    tails = [sign * height for height in first_values(other, many)]
    return [max([heads[a] + tails[x - a] for a in range(min(start, x + 1))]) for x in range(many)]


def late_sums(lead, other, sign, wide):
    """The best sums, times the sign, with the lead in its periodic part, until they are periodic.

    They stand from the length of the lead's transient part on. Of the other one's
    points below wide only the best one so far counts in each class of points that
    are whole periods of the lead apart.
    """
    start, size, rise = len(lead[1]), len(lead[2]), sign * sum(lead[2])
    heads = [sign * height for height in first_values(lead, start + size)[start:]]
    best = []
    sums = []
    for x, height in enumerate(first_values(other, wide + size)):
        worth = sign * height - x // size * rise
        if x < size:
            best.append(worth)
        elif x < wide:
            best[x % size] = max(best[x % size], worth)
        sums.append(max([
            highest + heads[(x - at) % size] + (x - at) // size * rise
            for at, highest in enumerate(best)
        ]))
    return sums


def continued(sums, period, rise, many):
    """The first so many sums, when those at the end go on rising so in each period."""
    longer = list(sums)
    for x in range(len(sums), many):
        longer.append(longer[x - period] + rise)
    return longer[:many]


def overtaken(early, late, lead, other, sign):
    """From where on all sums are periodic and no early sum is better than the late one."""
    start = len(lead[1])
    _, common = reach((lead, other))
    end = start + len(other[1]) + common
    ahead = sign * (gain(lead, common) - gain(other, common))
    early = continued(early, len(other[2]), sign * sum(other[2]), end + common)
    late = continued(late, len(lead[2]), sign * sum(lead[2]), end + common - start)
    lags = [early[x] - late[x - start] for x in range(end, end + common)]
    lasts = [end + x + (lag - 1) // ahead * common + 1 for x, lag in enumerate(lags) if lag > 0]
    return max(lasts, default=end)


def best_split(first, second, x, *, least=False):
    """The split (a, b) of x with the greatest or the least sum of both values, with the least a."""
    ups = first_values(first, x + 1)
    downs = first_values(second, x + 1)
    sums = [ups[a] + downs[x - a] for a in range(x + 1)]
    at = sums.index(min(sums) if least else max(sums))
    return at, x - at
