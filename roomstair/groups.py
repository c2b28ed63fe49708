"""Things put into as few groups as can be, no two things that are at odds into one group.

Lots of things are told by masks: integers that have a bit for each thing. What each thing is at
odds with is told by a list of such masks, one for each thing.
"""


def whole_groups(odds):
    """All lots without two things at odds that no other thing could join."""
    lots = [(0, 0)]
    for thing, mask in enumerate(odds):
        bit = 1 << thing
        lots = lots + [(lot + bit, barred | mask) for lot, barred in lots if barred & bit == 0]
    everything = (1 << len(odds)) - 1
    return [lot for lot, barred in lots if lot | barred == everything]


def least_missing(lot):
    """The least thing that is not in a lot."""
    thing = 0
    while (lot >> thing) & 1:
        thing += 1
    return thing


def one_group_more(reached, groups):
    """The lots that the groups of other lots make up with one group more, each with its groups.

    The least thing that is missing must be in some group: so only those that have it are tried.
    """
    longer = {}
    for lot, told in reached.items():
        thing = least_missing(lot)
        for group in groups:
            if (group >> thing) & 1 and (lot | group) not in longer:
                longer[lot | group] = (*told, group)
    return longer


def fewest_groups(odds):
    """As few groups as can be, in which all things are; things may be in several of them."""
    groups = whole_groups(odds)
    everything = (1 << len(odds)) - 1
    reached = {0: ()}
    while everything not in reached:
        reached = one_group_more(reached, groups)
    return reached[everything]


def group_numbers(odds):
    """For each thing the number, from 0 on, of the first one of the fewest groups that has it."""
    groups = fewest_groups(odds)
    things = range(len(odds))
    return [[number for number, group in enumerate(groups) if (group >> thing) & 1][0] for thing in things]
