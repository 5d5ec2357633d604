"""Picks: which of several options is taken at each of several points."""


def next_picks(picks, options):
    """The picks behind these ones in ascending order, or None if they are the last ones."""
    for at in range(len(options) - 1, -1, -1):
        pick = pick_at(picks, at)
        if pick + 1 < options[at]:
            return filled_picks(picks[:at], at) + [pick + 1]
    return None


def pick_at(picks, at):
    """The pick of an index, 0 if it is missing."""
    return picks[at] if at < len(picks) else 0


def filled_picks(picks, many):
    """The picks with zeros behind them until there are this many."""
    return list(picks) + [0] * (many - len(picks))
