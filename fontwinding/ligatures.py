"""Steps and labels of ligatures and kerns, and the ends of pairs of neighbors."""

from fontwinding.errors import EndlessPair

EDGE = 128

# What the signs of the language mean: `left_stays, right_stays, advance`, in the order of their numbers in a file.
SIGN_MEANINGS = {
    "=:": (False, False, 0),
    "|=:": (True, False, 0),
    "|=:>": (True, False, 1),
    "=:|": (False, True, 0),
    "=:|>": (False, True, 1),
    "|=:|": (True, True, 0),
    "|=:|>": (True, True, 1),
    "|=:|>>": (True, True, 2),
}


def rule(steps, labels, left, right):
    """The action that applies to two neighbors, or None."""
    for code, index in labels:
        if code == left:
            return action_from(steps, index, right)
    return None


def action_from(steps, index, right):
    """The action of the first step from an index on that is for this right neighbor, or None."""
    for step_right, action, is_last in steps[index:]:
        if step_right == right:
            return action
        if is_last:
            return None
    return None


def rules_of(steps, labels):
    """The dict of the actions that apply to pairs of neighbors."""
    found = {}
    for left, right in pairs_with_steps(steps, labels):
        action = rule(steps, labels, left, right)
        if action is not None:
            found[(left, right)] = action
    return found


def pairs_with_steps(steps, labels):
    """The list of the pairs of a code with a label and a code with a step; no other pair has a rule."""
    rights = sorted({step[0] for step in steps})
    return [(left, right) for left in sorted({label[0] for label in labels}) for right in rights]


def applied(left, right, action):
    """The items that remain of two neighbors when their rule has been applied, and the index of the place in them."""
    if action is None or action[0] == "kern":
        return ([left, right], 1)
    _, code, left_stays, right_stays, advance = action
    items = [code]
    if left_stays:
        items = [left, code]
    if right_stays:
        items.append(right)
    return (items, advance)


def pair_end(steps, labels, left, right):
    """The end of a pair of neighbors."""
    ends = {}
    find_ends(steps, labels, (left, right), ends)
    end = ends[(left, right)]
    if end is None:
        raise EndlessPair("a pair is endless")
    return end


def endless_pairs(steps, labels):
    """The list of all endless pairs in ascending order."""
    ends = {}
    for pair in pairs_with_steps(steps, labels):
        find_ends(steps, labels, pair, ends)
    return sorted([pair for pair in ends if ends[pair] is None])


def find_ends(steps, labels, pair, ends):
    """Enters the ends of a pair and of all pairs that it needs in a dict, None for an endless pair.

    While the end of a pair is looked for, the dict has None for it, too. So a pair that needs it is
    found to be endless, and so are all pairs that need this one.
    """
    if pair in ends:
        return
    ends[pair] = None
    # A list of pairs, each of which needs the next one: functions that call themselves would go too deep.
    waiting = [pair]
    while waiting:
        left, right = waiting[-1]
        items, place = applied(left, right, rule(steps, labels, left, right))
        end, needed = followed(items[place:], ends)
        if needed is None:
            ends[waiting.pop()] = end
        else:
            ends[needed] = None
            waiting.append(needed)


def followed(items, ends):
    """The end of some items with the place at the first one, and None; or None and the pair that is needed."""
    here = items[0]
    for item in items[1:]:
        if (here, item) not in ends:
            return (None, (here, item))
        here = ends[(here, item)]
        if here is None:
            return (None, None)
    return (here, None)
