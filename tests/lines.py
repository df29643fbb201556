"""Lines that are set as point 56 says it, word by word, for tests of what the program does."""

MEANINGS = {
    "=:": (False, False, 0), "|=:": (True, False, 0), "|=:>": (True, False, 1), "=:|": (False, True, 0),
    "=:|>": (False, True, 1), "|=:|": (True, True, 0), "|=:|>": (True, True, 1), "|=:|>>": (True, True, 2),
}


def ligature(sign, code):
    return ("ligature", code) + MEANINGS[sign]


def table_of(rules):
    """The steps and labels for a dict of actions by pairs of neighbors."""
    steps, labels = [], []
    for left in sorted({pair[0] for pair in rules}):
        labels.append((left, len(steps)))
        rights = sorted(pair[1] for pair in rules if pair[0] == left)
        for right in rights:
            steps.append((right, rules[left, right], right == rights[-1]))
    return tuple(steps), tuple(labels)


def doubling_table():
    """Steps and labels with which the setting of (50, k) takes twice as many rules as that of (50, k - 1).

    The codes 0 to 10 stand on the right. 50 inserts the code below, which ends in 51. 51 becomes
    60 + k, and this puts the code below in the place of k, which ends in 51 again.
    """
    down = [(k, ligature("|=:", k - 1)) for k in range(1, 11)]
    insert = [(k, ligature("|=:|", k - 1)) for k in range(1, 11)] + [(0, ligature("=:", 51))]
    turn = [(k, ligature("=:|", 60 + k)) for k in range(1, 11)]
    lists = [down + insert, turn]
    steps = tuple((*step, step is part[-1]) for part in lists for step in part)
    labels = ((50, 10), (51, 21)) + tuple((60 + k, k - 1) for k in range(1, 11))
    return steps, labels


class Endless(Exception):
    pass


class Row:
    """A row of items, each a list so that two items are never the same one; kerns lie between neighbors."""

    def __init__(self, items, find_rule, most, patience=10 ** 7):
        self.items = [[item] for item in items]
        self.kerns = [0] * (len(items) - 1)
        self.place = 0
        self.find_rule = find_rule
        self.most = most
        self.rules = 0
        self.patience = patience

    def step(self):
        left, right = self.items[self.place], self.items[self.place + 1]
        action = self.find_rule(left[0], right[0])
        self.rules += 1
        if self.rules > self.patience:
            raise Endless
        if action is None:
            self.place += 1
        elif action[0] == "kern":
            self.kerns[self.place] += action[1]
            self.place += 1
        else:
            _, code, left_stays, right_stays, advance = action
            three = [left] * left_stays + [[code]] + [right] * right_stays
            self.items[self.place:self.place + 2] = three
            self.kerns[self.place:self.place + 1] = [0] * (len(three) - 1)
            self.place += advance
        if len(self.items) > self.most:
            raise OverflowError

    def at_end(self):
        return self.place + 1 >= len(self.items)


def set_slowly(find_rule, codes, most=400):
    """The glyphs and kerns of a line; OverflowError if the row is too long."""
    if len(codes) + 2 > most:
        raise OverflowError
    row = Row([128] + list(codes) + [128], find_rule, most)
    while not row.at_end():
        row.step()
    glyphs, kerns = [], [0]
    for at, item in enumerate(row.items):
        if item[0] != 128:
            glyphs.append(item[0])
            kerns.append(0)
        if at < len(row.kerns):
            kerns[-1] += row.kerns[at]
    return glyphs, kerns


def end_slowly(find_rule, left, right, most=600, patience=5000):
    """The end of a pair, found by setting it with one more item after it; None if that seems to be endless."""
    row = Row([left, right, 999], find_rule, most, patience)
    after = row.items[-1]
    try:
        while row.items[row.place + 1] is not after:
            row.step()
    except (Endless, OverflowError):
        return None
    return row.items[row.place][0]
