"""The greatest worth of each place of a net whose moves gain something."""


def raised_worths(ends, moves):
    """The greatest gain from each place on, and a round that gains something.

    `ends[at]` is the gain of stopping at the place `at`; `moves[at]` has a pair (target, gain) for each move from
    there. The round is a list of pairs (place, number of the move). If there is one, the gains mean nothing; if
    there is none, the list is empty.
    """
    worths = list(ends)
    choices = [None] * len(ends)
    while _raise_once(worths, choices, moves):
        at = _place_on_round(choices, moves)
        if at is not None:
            return worths, _round_from(at, choices, moves)
    return worths, []


def _raise_once(worths, choices, moves):
    """Raise each worth to what its best move gives, and note this move; True if a worth was raised."""
    is_raised = False
    for at, ways in enumerate(moves):
        for number, (target, gain) in enumerate(ways):
            if worths[target] + gain > worths[at]:
                worths[at] = worths[target] + gain
                choices[at] = number
                is_raised = True
    return is_raised


def _place_on_round(choices, moves):
    """A place to which the chosen moves lead back, or None."""
    # No worth is above what its chosen move gives now, for the worths only rise. So the move that was chosen last
    # on a round raised its own worth by way of the whole round: the round gains something.
    seen_from = [None] * len(choices)
    for origin in range(len(choices)):
        at = origin
        while choices[at] is not None and seen_from[at] is None:
            seen_from[at] = origin
            at = moves[at][choices[at]][0]
        if choices[at] is not None and seen_from[at] == origin:
            return at
    return None


def _round_from(first, choices, moves):
    """The chosen moves from the place until they lead back to it."""
    taken = [(first, choices[first])]
    at = moves[first][choices[first]][0]
    while at != first:
        taken.append((at, choices[at]))
        at = moves[at][choices[at]][0]
    return taken
