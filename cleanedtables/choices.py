"""Choices: which of some offers are taken, and the least marks that no choice takes away."""


def choices_of(offers):
    """Tell all choices of offers: by cost, then as they rise."""
    choices = [()]
    for number in range(len(offers)):
        choices = choices + [choice + (number,) for choice in choices if is_free(offers, choice, number)]
    return sorted(choices, key=lambda told: (cost_of(offers, told), told))


def is_free(offers, choice, number):
    """Tell whether no offer of a choice is of the cell of the offer of this number."""
    return offers[number][:2] not in [offers[other][:2] for other in choice]


def cost_of(offers, choice):
    """Tell the cost of all offers of a choice."""
    return sum([offers[number][3] for number in choice])


def least_hit(groups):
    """Tell the shortest rising list of numbers of which each group has one, of these the least."""
    left = narrowest([sorted(set(group)) for group in groups])
    many = 0
    while not can_hit(left, many):
        many += 1
    hit = []
    for number in sorted({number for group in left for number in group}):
        rest = [without(group, number) for group in left if number not in group]
        if len(left) > 0 and can_hit(rest, many - len(hit) - 1):
            hit.append(number)
            left = rest
        else:
            left = [without(group, number) for group in left]
    return hit


def without(group, number):
    """Tell a group of numbers without this one."""
    return [other for other in group if other != number]


def narrowest(groups):
    """Tell the groups that have no other one in them: what these have, all have."""
    kept = []
    for group in sorted(groups, key=len):
        if not any([all([number in group for number in other]) for other in kept]):
            kept.append(group)
    return kept


def can_hit(groups, many):
    """Tell whether there are so many numbers of which each group has one."""
    if len(groups) == 0:
        return True
    if many == 0 or is_beyond(groups, many):
        return False
    tried = []
    for number in min(groups, key=len):
        rest = [[other for other in group if other not in tried] for group in groups if number not in group]
        if can_hit(rest, many - 1):
            return True
        # All ways with this number are gone through.
        tried.append(number)
    return False


def is_beyond(groups, many):
    """Tell whether so many numbers are too few by a count alone, or a group has none."""
    counts = {}
    apart = 0
    taken = {}
    for group in sorted(groups, key=len):
        if len(group) == 0:
            return True
        # Groups that have nothing together want a number each.
        if not any([number in taken for number in group]):
            apart += 1
            taken.update({number: True for number in group})
        for number in group:
            counts[number] = counts.get(number, 0) + 1
    most = sum(sorted(list(counts.values()), reverse=True)[:many])
    return apart > many or most < len(groups)
