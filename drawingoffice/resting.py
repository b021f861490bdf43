"""How often a list of replacements must be run until nothing changes any more (point 30 of the document)."""

from drawingoffice.comparing import compare
from drawingoffice.errors import BadBound, NeverRests


def rest(steps, *, most_runs=4, most):
    """The list, run as often as it takes until one more run changes no stack."""
    if most_runs < 1:
        raise BadBound(most_runs)
    if most < 1:
        raise BadBound(most)
    # All runs come first, so that an error tells the number of their steps and not that of fewer runs.
    all_runs = steps * most_runs
    runs = [steps * count for count in range(most_runs)] + [all_runs]
    text = None
    for fewer, more in zip(runs, runs[1:]):
        verdict = compare(fewer, more, most=most)
        if verdict.same:
            return fewer
        text = verdict.text
    raise NeverRests(text)
