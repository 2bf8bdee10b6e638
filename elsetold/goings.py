"""How the cry goes along whole ways: from both ends, to where it meets itself."""


def goings(web, least):
    """Give a tuple (way, start, back, meet) for each time that the cry goes along a way.

    It sets out from the way's first end at beat start and from its second one at beat back, and is at one from
    both of them so many beats from the first end as meet tells: 0 or all the way's where it only comes to an end.
    """
    found = []
    for way in web[1]:
        one, other, beats = way
        for kind in (0, 1):
            if (one, kind) in least:
                start = least[(one, kind)]
                back = least[(other, (kind + beats) % 2)]
                # From the first end it has gone as many beats as from the second one, less the start's delay.
                found.append((way, start, back, (back + beats - start) // 2))
    return found
