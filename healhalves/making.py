"""Whether a net makes words, and a core on which it doesn't."""

from healhalves.kinds import check_size, length_of
from healhalves.nets import check_net, run_steps
from healhalves.words import word_of


def makes_words(size, net):
    return unlike_core(size, net) is None


# Running a net and making a word both turn sums into sums, and every core is a sum of cores with a single 1:
# what agrees on these agrees on all.
def unlike_core(size, net):
    check_size(size)
    check_net(size, net)
    length = length_of(size)
    for place in range(length):
        core = single_core(length, place)
        if run_steps(net, core) != word_of(core):
            return core
    return None


def single_core(length, place):
    return [1 if other == place else 0 for other in range(length)]
