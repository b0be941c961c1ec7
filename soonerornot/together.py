"""What ways two stretches can have by way of a third one."""

from soonerornot.ways import ALL_WAYS, way_of, way_order

# TOGETHER[v][w] is what is together of v and w. It is written out, as narrowing asks for it all the time;
# the tests find it again among all orders of six moments.
TOGETHER = (
    ((0,), (1,), (2,), (3,), (4,), (5,), (6,), (7,), (8,), (9,), (10,), (11,), (12,)),
    ((1,), (1,), (3,), (3,), (0, 1, 4), (2, 3, 6), (2, 3, 6), (2, 3, 5, 6, 7), (8,), (10,), (10,),
     (9, 10, 11), (12,)),
    ((2,), (2,), (3,), (3,), (2,), (3,), (3,), (3,), (0, 5, 9), (1, 6, 10), (1, 6, 10), (1, 6, 10),
     (4, 7, 8, 11, 12)),
    ((3,), (3,), (3,), (3,), (3,), (3,), (3,), (3,), (1, 2, 3, 6, 10), (1, 2, 3, 6, 10), (1, 2, 3, 6, 10),
     (1, 2, 3, 6, 10), (0, 1, 2, 3, 4, 5, 6, 7, 8, 9, 10, 11, 12)),
    ((4,), (0, 1, 4), (5, 6, 7), (2, 3, 5, 6, 7), (4,), (7,), (5, 6, 7), (7,), (8,), (11,), (9, 10, 11),
     (11,), (12,)),
    ((5,), (6,), (2,), (3,), (7,), (5,), (6,), (7,), (4, 7, 11), (0, 5, 9), (1, 6, 10), (4, 7, 11),
     (4, 7, 8, 11, 12)),
    ((6,), (6,), (3,), (3,), (5, 6, 7), (2, 3, 6), (2, 3, 6), (2, 3, 5, 6, 7), (4, 7, 11), (1, 6, 10),
     (1, 6, 10), (0, 1, 4, 5, 6, 7, 9, 10, 11), (4, 7, 8, 11, 12)),
    ((7,), (5, 6, 7), (5, 6, 7), (2, 3, 5, 6, 7), (7,), (7,), (5, 6, 7), (7,), (4, 7, 11), (4, 7, 11),
     (0, 1, 4, 5, 6, 7, 9, 10, 11), (4, 7, 11), (4, 7, 8, 11, 12)),
    ((8,), (9, 10, 11), (0, 1, 4), (2, 3, 5, 6, 7), (12,), (8,), (9, 10, 11), (12,), (12,), (8,), (9, 10, 11),
     (12,), (12,)),
    ((9,), (10,), (2,), (3,), (8, 11, 12), (0, 5, 9), (1, 6, 10), (4, 7, 8, 11, 12), (12,), (9,), (10,),
     (8, 11, 12), (12,)),
    ((10,), (10,), (3,), (3,), (8, 9, 10, 11, 12), (1, 2, 3, 6, 10), (1, 2, 3, 6, 10),
     (0, 1, 2, 3, 4, 5, 6, 7, 8, 9, 10, 11, 12), (12,), (10,), (10,), (8, 9, 10, 11, 12), (12,)),
    ((11,), (9, 10, 11), (5, 6, 7), (2, 3, 5, 6, 7), (8, 11, 12), (4, 7, 11), (0, 1, 4, 5, 6, 7, 9, 10, 11),
     (4, 7, 8, 11, 12), (12,), (11,), (9, 10, 11), (8, 11, 12), (12,)),
    ((12,), (8, 9, 10, 11, 12), (8, 9, 10, 11, 12), (0, 1, 2, 3, 4, 5, 6, 7, 8, 9, 10, 11, 12), (12,), (12,),
     (8, 9, 10, 11, 12), (12,), (12,), (12,), (8, 9, 10, 11, 12), (12,), (12,)),
)


def together(v, w):
    """Return the lot of what is together of two ways."""
    return TOGETHER[v][w]


def together_lots(one, other):
    """Return the lot of what is together of two lots."""
    return tuple(sorted(set([x for v in one for w in other for x in TOGETHER[v][w]])))


def threes():
    """Return the ascending list of the triples of ways of which the third is together of the first two."""
    return [(v, w, x) for v in ALL_WAYS for w in ALL_WAYS for x in TOGETHER[v][w]]


def three_placed(v, w, x):
    """Return a placing of the moments of s, t and q that has these ways of s to t, t to q and s to q, or None."""
    if x not in TOGETHER[v][w]:
        return None
    # Three times as far apart, the moments of s and q leave room for both of t wherever these belong.
    s_begin, s_end, q_begin, q_end = [3 * k for k in way_order(x)]
    for begin in range(-2, 12):
        for end in range(begin + 1, 12):
            placing = (s_begin, s_end, begin, end, q_begin, q_end)
            if way_of(placing, (0, 1), (2, 3)) == v and way_of(placing, (2, 3), (4, 5)) == w:
                return placing
    return None
