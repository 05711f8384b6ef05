"""Ways to mark directions: one of each complete set, and no two at right angles.

Here right is the table of right angles: for each direction a dict of those at right angles to it.
"""


def apart_from(chosen, closed):
    return [i for i in chosen if i not in closed]


def fit(marked, sets, right):
    for i in marked:
        if any([j in right[i] for j in marked]):
            return False
    for chosen in sets:
        if not any([i in chosen for i in marked]):
            return False
    return True


# Once i is marked the sets that have it are done with, and what is at right angles to it
# can't be marked in the others.
def after_marking(left, i, right):
    return [apart_from(chosen, right[i]) for chosen in left if i not in chosen]


# The ways to mark just one direction of each set that is left, at most so many of them.
# The smallest set is taken up first, because few can be tried there; in an empty one none can.
# Each step marks one more, so it never goes deeper than there are directions.
def ways_to_mark(left, right, most):
    if not left:
        return [()]
    found = []
    for i in min(left, key=len):
        behind = ways_to_mark(after_marking(left, i, right), right, most - len(found))
        found.extend([(i,) + marked for marked in behind])
        if len(found) == most:
            break
    return found


# Directions that stand in no complete set need no asking: they may all be left unmarked.
def some_way_fits(sets, right):
    return len(ways_to_mark(sets, right, 1)) == 1


# One direction after another is left unmarked if some way still fits then; else it's marked
# in every way that fits and leaves unmarked what was left so before. None if nothing fits.
def first_way(sets, right):
    if not some_way_fits(sets, right):
        return None
    left = sets
    marked = []
    for i in range(len(right)):
        without = [apart_from(chosen, (i,)) for chosen in left]
        if some_way_fits(without, right):
            left = without
        else:
            marked.append(i)
    return marked


# The ways to mark some of the free directions, or none; they are counted up to enough.
def count_free(free, right, enough):
    if not free:
        return 1
    others = free[1:]
    count = count_free(others, right, enough)
    if count < enough:
        count += count_free(apart_from(others, right[free[0]]), right, enough - count)
    return count


def in_no_set(sets, right):
    standing = {}
    for chosen in sets:
        for i in chosen:
            standing[i] = True
    return [i for i in range(len(right)) if i not in standing]


# The ways that fit, counted up to enough. Once one of each complete set is marked, none else that
# stands in one can be: it's only those in no complete set that are still free.
def count_ways(sets, right, enough):
    lone = in_no_set(sets, right)
    count = 0
    for marked in ways_to_mark(sets, right, enough):
        free = [i for i in lone if not any([i in right[j] for j in marked])]
        count += count_free(free, right, enough - count)
        if count == enough:
            break
    return count


# A direction that is taken out takes its complete sets along. Those left don't have it,
# so it needn't be struck out elsewhere.
def needed_directions(sets, right):
    needed = []
    for i in range(len(right)):
        if some_way_fits([chosen for chosen in sets if i not in chosen], right):
            needed.append(i)
    return needed
