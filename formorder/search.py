"""The first stretch of a text that has another text's key."""

from formorder.forms import first_part, parts_of
from formorder.refusals import NothingToFind
from formorder.weighing import Trail, key_of, key_of_weights, weighs_nothing


def find_stretch(tables, level, x, y):
    wanted = key_of(tables, level, 0, y)
    if weighs_nothing(wanted):
        raise NothingToFind()
    trail = Trail(tables, x)
    starts = starts_in_trail(tables, x)
    joints = [place for place in range(len(x) + 1) if is_joint(tables, x, place)]
    for number, first in enumerate(joints):
        for last in joints[number + 1:]:
            weights = trail.weights_between(starts[first], starts[last])
            if key_of_weights(level, 0, weights) == wanted:
                return [1, first, last - first]
    return [0]


def is_joint(tables, x, place):
    if place == 0 or place == len(x):
        return True
    return tables.class_of(first_part(tables, x[place], False)) == 0


# Where each place of x lies in its form 0. That holds of joints, which are all that's asked for: no mark is put
# in order past a joint, so a stretch's own form 0 is what lies between its two.
def starts_in_trail(tables, x):
    starts = [0]
    for code in x:
        starts.append(starts[-1] + len(parts_of(tables, code, False)))
    return starts
