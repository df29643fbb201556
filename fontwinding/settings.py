"""Lines of characters, set with ligatures and kerns."""

from fontwinding.errors import EndlessPair, TooLong
from fontwinding.ligatures import EDGE, applied, endless_pairs, rules_of

MOST_ITEMS = 400


def set_line(steps, labels, codes):
    """The glyphs and the kerns of a line."""
    if endless_pairs(steps, labels):
        raise EndlessPair("a pair is endless")
    check_length(len(codes) + 2)
    return glyphs_and_kerns(set_row(rules_of(steps, labels), codes))


def check_length(count):
    """Refuses a row of too many items."""
    if count > MOST_ITEMS:
        raise TooLong(f"a line has at most {MOST_ITEMS} items with its edges")


def set_row(rules, codes):
    """The items of the row of a line that is set, each with the kern after it."""
    done = []
    here = EDGE
    # The items after the place, the next one at the end of the list.
    ahead = [EDGE] + codes[::-1]
    while ahead:
        right = ahead.pop()
        action = rules.get((here, right))
        items, place = applied(here, right, action)
        check_length(len(done) + len(items) + len(ahead))
        for item in items[:place]:
            done.append((item, kern_of(action)))
        here = items[place]
        ahead.extend(items[:place:-1])
    done.append((here, 0))
    return done


def kern_of(action):
    """The amount of a kern, 0 for other actions."""
    if action is not None and action[0] == "kern":
        return action[1]
    return 0


def glyphs_and_kerns(row):
    """The glyphs of a row, and the sums of the kerns before the first one and after each of them."""
    glyphs = []
    kerns = [0]
    for item, kern in row:
        if item != EDGE:
            glyphs.append(item)
            kerns.append(0)
        kerns[-1] += kern
    return (glyphs, kerns)
