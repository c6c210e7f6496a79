"""A text's elements by the keys of the tables, and its own key at a level."""

from formorder.forms import form_of
from formorder.tables import Weight

LONGEST_KEY = 3
# Stands ahead of the second and of the third level; no weight is 1.
LEVEL_SIGN = 1

FIRST_UNKEYED = 0xFB40
UNKEYED_BLOCK = 32768
UNKEYED_SECOND = 32
UNKEYED_THIRD = 2


# What is taken at once on the way through a text: how many code points, and what they weigh.
class Step:
    def __init__(self, length, weights):
        self.length = length
        self.weights = weights


# A text's form 0, with the step from each of its places: so that stretches of it are weighed without a new look.
class Trail:
    def __init__(self, tables, text):
        self.tables = tables
        self.codes = form_of(tables, 0, text)
        self.steps = [step_from(tables, self.codes, at, len(self.codes)) for at in range(len(self.codes))]

    # A step that goes past the stretch's end is looked up anew: a shorter key may fit.
    def step_within(self, at, stop):
        step = self.steps[at]
        if at + step.length <= stop:
            return step
        return step_from(self.tables, self.codes, at, stop)

    def weights_between(self, start, stop):
        weights = []
        at = start
        while at < stop:
            step = self.step_within(at, stop)
            weights.extend(step.weights)
            at += step.length
        return weights


def step_from(tables, codes, at, stop):
    for length in range(min(LONGEST_KEY, stop - at), 0, -1):
        begun = tuple(codes[at:at + length])
        if begun in tables.weights_by_codes:
            return Step(length, tables.weights_by_codes[begun])
    return Step(1, unkeyed_weights(codes[at]))


def unkeyed_weights(code):
    block = FIRST_UNKEYED + code // UNKEYED_BLOCK
    rest = code % UNKEYED_BLOCK + UNKEYED_BLOCK
    return [Weight([block, UNKEYED_SECOND, UNKEYED_THIRD]), Weight([rest, 0, 0])]


def key_of(tables, level, back, text):
    trail = Trail(tables, text)
    return key_of_weights(level, back, trail.weights_between(0, len(trail.codes)))


def key_of_weights(level, back, weights):
    key = [weight.p for weight in weights if weight.p != 0]
    if level >= 2:
        seconds = [weight.s for weight in weights if weight.s != 0]
        key.append(LEVEL_SIGN)
        key.extend(list(reversed(seconds)) if back == 1 else seconds)
    if level == 3:
        key.append(LEVEL_SIGN)
        key.extend([weight.u for weight in weights if weight.u != 0])
    return key


def weighs_nothing(key):
    return all([number == LEVEL_SIGN for number in key])
