"""Why no fewer units are enough: two sets of trips that between them meet every pair."""


# followers has of each trip those that may follow it. Gives back both sets, each as a rising list.
def fewest_sets(followers):
    best = whole_sets(followers, 0)
    for number in range(1, 1 << len(followers)):
        sets = whole_sets(followers, number)
        # the numbers rise, so among as few the least one is there already
        if size_of(sets) < size_of(best):
            best = sets
    return best


def whole_sets(followers, number):
    one = []
    other = {}
    for i, after in enumerate(followers):
        if number >> i & 1 == 1:
            one.append(i)
        else:
            for j in after:
                other[j] = True
    return (one, sorted(other))


def size_of(sets):
    return len(sets[0]) + len(sets[1])
