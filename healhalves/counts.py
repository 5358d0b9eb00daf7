"""How many losses of each number of spots lose a place."""

from healhalves.kinds import check_place, check_size, length_of


# A spot of the halves hangs on two spots of the whole, and no two hang on the same one. So from the top figure down,
# it is enough to count the ways, by how many spots are lost, in which one spot of the halves is lost, and is kept.
def counts_of(size, place):
    check_size(size)
    check_place(size, place)
    lost = [0, 1]
    kept = [1, 0]
    for number in range(size - 1, -1, -1):
        one_of_two = [2 * ways for ways in both_ways(lost, kept)]
        both_lost = both_ways(lost, lost)
        both_kept = both_ways(kept, kept)
        if (place & length_of(number)) == 0:
            lost = either_way(both_lost, one_of_two)
            kept = both_kept
        else:
            lost = both_lost
            kept = either_way(both_kept, one_of_two)
    return lost


def both_ways(one, other):
    ways = [0] * (len(one) + len(other) - 1)
    for first, many in enumerate(one):
        for second, beside in enumerate(other):
            ways[first + second] += many * beside
    return ways


def either_way(one, other):
    return [many + beside for many, beside in zip(one, other)]
