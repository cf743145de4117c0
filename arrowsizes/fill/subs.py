"""All subs of a filling among told spaces, by lists of bases for all points.

All these functions check nothing.
"""

from arrowsizes.grid.columns import base_columns, is_within, leads_of_base


def _goals_of(filling, arrow, columns, goals):
    """The dict of the indices of those bases at the goal of an arrow, told by their leads, into which a base is led."""
    table = filling.tables[arrow]
    reached = base_columns(filling.prime, [table.leading(column) for column in columns])
    return {at: True for at, leads in enumerate(goals) if is_within(filling.prime, reached, leads)}


def _ways_of(filling, options):
    """For each arrow the list of the dicts of goals of all bases at its start."""
    leads = [[leads_of_base(columns) for columns in option] for option in options]
    found = []
    for arrow, (start, goal) in enumerate(filling.plan.arrows):
        found.append([_goals_of(filling, arrow, columns, leads[goal]) for columns in options[start]])
    return found


def _does_fit(arrows, ways, chosen):
    """Whether the last one of some chosen bases goes with all ahead of it along the arrows between them."""
    last = len(chosen) - 1
    for (start, goal), way in zip(arrows, ways):
        if last == max(start, goal) and chosen[goal] not in way[chosen[start]]:
            return False
    return True


def subs_among(filling, options):
    """The list of all subs that have at each point one of the told bases."""
    arrows, ways = filling.plan.arrows, _ways_of(filling, options)
    found = [()]
    for option in options:
        longer = [chosen + (at,) for chosen in found for at in range(len(option))]
        found = [chosen for chosen in longer if _does_fit(arrows, ways, chosen)]
    return [tuple([bases[at] for bases, at in zip(options, chosen)]) for chosen in found]
