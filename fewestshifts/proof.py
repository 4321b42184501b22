"""Proofs: entries that tell a price of some places, and why they prove nothing."""


def cut_entries(numbers, length):
    """The entries that a row tells, each of so many numbers; the last may be cut short."""
    return [numbers[at:at + length] for at in range(0, len(numbers), length)]


def prices_told(maze, limit, entries):
    """What the entries tell of their places, in the entries' order, up to the first that is none.

    An entry is a place's numbers and a price below the limit; no two have the same place.
    """
    told = {}
    for entry in entries:
        place = maze.place_told(entry[:-1])
        if place is None or place in told or entry[-1] >= limit:
            break
        told[place] = entry[-1]
    return told


def why_unproved(maze, limit, told, place, meeting):
    """The first reason why what is told doesn't prove that the place's price isn't below the limit; empty if it does.

    Of places without an entry the limit is told. meeting are the places that meet the wish, in order.
    """
    if place in told:
        return [1]
    unmet = [one for one in meeting if told.get(one, limit) != 0]
    if unmet:
        return [2] + maze.tell(unmet[0])
    for number, here in enumerate(list(told)):
        for start, end, after in maze.steps(here):
            if told.get(after, limit) > told[here] + 1:
                return [3, number, start, end]
    return []
