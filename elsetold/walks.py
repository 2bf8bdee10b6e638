"""Walks along the ways of a web that is known to be one."""

from heapq import heappush, heappop


def ways_from(web):
    """Give a dict from all folk to lists of tuples (who is at the way's other end, its beats)."""
    ends = {name: [] for name in web[0]}
    for one, other, beats in web[1]:
        ends[one].append((other, beats))
        ends[other].append((one, beats))
    return ends


def all_from(ends, name):
    """Give the rising list of all who can be come to from this one, who is one of them."""
    met = {name: True}
    todo = [name]
    while todo:
        here = todo.pop()
        for other, _ in ends[here]:
            if other not in met:
                met[other] = True
                todo.append(other)
    return sorted(met)


def both_least(one, other):
    """Give the least walks from the starters of two lots together, by those from each lot."""
    least = {key: one[key] for key in one}
    for key, beats in other.items():
        least[key] = min(beats, least.get(key, beats))
    return least


def least_walks(ends, starters):
    """Give a dict from (name, kind) to the fewest beats of a walk of that kind from a starter.

    The kind is 0 of even walks and 1 of odd ones; what no walk comes to is not in the dict.
    """
    least = {}
    queue = [(0, name) for name in sorted(starters)]
    while queue:
        beats, name = heappop(queue)
        if (name, beats % 2) not in least:
            least[(name, beats % 2)] = beats
            for other, more in ends[name]:
                heappush(queue, (beats + more, other))
    return least
