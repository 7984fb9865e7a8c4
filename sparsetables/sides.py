"""Columns of a side: which of them meet, their orders and their colourings.

A column stands for a row too, where the side is that of the rows.
"""

COLUMN_SIDE = 0
ROW_SIDE = 1

NUMBER_ORDER = 0
MOST_MET_ORDER = 1
TAKEN_AWAY_ORDER = 2

NO_COLOUR = -1


# For each column of the side its entries, across the other side.
def side_entries(pattern, inputs, side):
    if side == ROW_SIDE:
        return pattern
    return [[row[column] for row in pattern] for column in range(inputs)]


def share_entry(first, second):
    return any([one and other for one, other in zip(first, second)])


# For each column the columns that it meets.
def meeting_columns(entries):
    return [columns_met(entries, column) for column in range(len(entries))]


def columns_met(entries, column):
    own = entries[column]
    return [other for other in range(len(entries)) if other != column and share_entry(own, entries[other])]


def meeting_pairs(met):
    pairs = []
    for first, others in enumerate(met):
        pairs.extend([(first, second) for second in others if first < second])
    return pairs


def ordered_columns(met, order):
    if order == NUMBER_ORDER:
        return list(range(len(met)))
    if order == MOST_MET_ORDER:
        # Sorting keeps columns that meet equally many by their numbers.
        return sorted(range(len(met)), key=lambda column: -len(met[column]))
    return taken_away_order(met)


def taken_away_order(met):
    left = list(range(len(met)))
    taken = []
    while len(left) > 0:
        column = fewest_met(met, left)
        taken.append(column)
        left.remove(column)
    return list(reversed(taken))


def fewest_met(met, left):
    chosen = left[0]
    fewest = len(left)
    for column in left:
        still_met = len([other for other in met[column] if other in left])
        # Equally few count too: of several the greatest number is taken away.
        if still_met <= fewest:
            chosen = column
            fewest = still_met
    return chosen


def told_colours(met, order):
    colours = [NO_COLOUR for column in met]
    for column in ordered_columns(met, order):
        colours[column] = least_other([colours[other] for other in met[column]])
    return colours


def least_other(colours):
    least = 0
    while least in colours:
        least += 1
    return least


def colour_count(colours):
    return max(colours, default=NO_COLOUR) + 1


# None where the colouring is proper.
def first_clash(met, colours):
    for pair in meeting_pairs(met):
        if colours[pair[0]] == colours[pair[1]]:
            return pair
    return None


# Tries one colouring after another: only for few columns.
def fewest_colours(met):
    count = 0
    while not can_be_coloured(met, [], count):
        count += 1
    return count


# Whether the colours begun with can be gone on with to a proper colouring by so many colours.
def can_be_coloured(met, begun, count):
    column = len(begun)
    if column == len(met):
        return True
    near = [begun[other] for other in met[column] if other < column]
    # Colours that aren't in use yet are all alike, so only the first of them is tried.
    for colour in range(min(count, colour_count(begun) + 1)):
        if colour not in near and can_be_coloured(met, begun + [colour], count):
            return True
    return False
