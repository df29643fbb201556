"""The steps and labels of a machine, and the statement that adds some."""

from fontwinding.errors import EndlessPair, OutOfRange, TooMany
from fontwinding.evaluation import number_of
from fontwinding.ligatures import EDGE, SIGN_MEANINGS, endless_pairs
from fontwinding.ratios import sixty_fourths
from fontwinding.values import whole_up_to

MOST_CODE = 127
MOST_KERN = 6400
MOST_STEPS = 32
MOST_LABELS = 32


class LigatureTable:
    """The steps and labels of a machine."""

    def __init__(self):
        self._steps = ()
        self._indexes = {}

    def steps_made(self):
        """The tuple of the steps."""
        return self._steps

    def labels_made(self):
        """The tuple of the labels in ascending order of their codes."""
        return labels_of(self._indexes)

    def add_steps(self, steps, indexes):
        """Adds steps, and labels as a dict of codes and indexes, in which 0 means the first one of these steps."""
        all_steps = self._steps + tuple(steps)
        if len(all_steps) > MOST_STEPS:
            raise TooMany(f"there are at most {MOST_STEPS} steps")
        all_indexes = dict(self._indexes)
        for code in indexes:
            all_indexes[code] = len(self._steps) + indexes[code]
        if len(all_indexes) > MOST_LABELS:
            raise TooMany(f"there are at most {MOST_LABELS} labels")
        if endless_pairs(all_steps, labels_of(all_indexes)):
            raise EndlessPair("a pair would be endless")
        self._steps = all_steps
        self._indexes = all_indexes


def labels_of(indexes):
    """The tuple of the labels, from a dict of codes and indexes."""
    return tuple((code, indexes[code]) for code in sorted(indexes))


def add_items(scope, tree):
    """Adds the labels and steps of a statement to those of the machine."""
    found = []
    indexes = {}
    for item in tree[1]:
        code = code_of(scope, item[1])
        if item[0] == "label":
            indexes[code] = len(found)
        else:
            found.append((code, action_of(scope, item[2])))
    last = len(found) - 1
    steps = [(right, action, at == last) for at, (right, action) in enumerate(found)]
    scope.state.ligatures.add_steps(steps, indexes)


def code_of(scope, tree):
    """The code of a label, of a step or of a ligature."""
    if tree[0] == "edge":
        return EDGE
    return whole_up_to(number_of(scope, tree), MOST_CODE)


def action_of(scope, tree):
    """The action of a step."""
    if tree[0] == "ligature":
        return ("ligature", code_of(scope, tree[2])) + SIGN_MEANINGS[tree[1]]
    amount = sixty_fourths(number_of(scope, tree[1]))
    if not -MOST_KERN <= amount <= MOST_KERN:
        raise OutOfRange("a kern is not from -100 to 100")
    return ("kern", amount)
