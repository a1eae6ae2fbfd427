"""Up to which size or age a share of all is reached."""

from piecebook.limits import NOT_THERE, WHOLE


def least_reaching(weighed, p):
    """Of (value, weight) pairs the least value so that those of no more weigh at least p in WHOLE of all.

    NOT_THERE if all together weigh nothing.
    """
    total = sum([weight for value, weight in weighed])
    if total == 0:
        return NOT_THERE
    rising = sorted(weighed)
    at = 0
    reached = rising[0][1]
    # ends at the last pair at the latest: then all is reached, and p is no more than WHOLE
    while WHOLE * reached < p * total:
        at += 1
        reached += rising[at][1]
    return rising[at][0]
