"""Tables of metrics: few values that stand for many."""

# How many values the tables of the width, the height, the depth and the italic correction have besides 0.
LIMITS = (8, 4, 3, 2)


def groups(values, tolerance):
    """The list of the pairs `(least, greatest)` of the groups of the values that are greater than 0."""
    return groups_in_order(values_in_order(values), tolerance)


def values_in_order(values):
    """The list of the values that are greater than 0, in ascending order and without duplicates."""
    return sorted({value for value in values if value > 0})


def groups_in_order(values, tolerance):
    """The list of the groups of values in ascending order."""
    found = []
    for value in values:
        if found and value <= found[-1][0] + tolerance:
            found[-1] = (found[-1][0], value)
        else:
            found.append((value, value))
    return found


def least_tolerance(values, limit):
    """The least tolerance with which there are at most `limit` groups."""
    ordered = values_in_order(values)
    if not ordered:
        return 0
    low = 0
    high = ordered[-1] - ordered[0]
    # With a greater tolerance there never are more groups, so the range is halved each time.
    while low < high:
        middle = (low + high) // 2
        if len(groups_in_order(ordered, middle)) <= limit:
            high = middle
        else:
            low = middle + 1
    return low


def table_groups(values, limit):
    """The list of the groups of a table."""
    return groups(values, least_tolerance(values, limit))


def group_value(group):
    """The value of a group in the table."""
    return (group[0] + group[1]) // 2


def table(values, limit):
    """The list of the values of a table, 0 first."""
    return [0] + [group_value(group) for group in table_groups(values, limit)]


def table_value(values, limit, value):
    """The table value of one of the values, or of 0."""
    for group in table_groups(values, limit):
        if group[0] <= value <= group[1]:
            return group_value(group)
    return 0
