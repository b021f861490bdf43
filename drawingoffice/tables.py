"""The tables of programs (points 64 to 67 of the document)."""

from drawingoffice.fitness import check_fit, check_start
from drawingoffice.hazards import Hazards
from drawingoffice.running import can_reach
from drawingoffice.solving import Solver


def table(program, joint):
    """The least facts that tell from which states the definitions can go wrong, and what they need for it."""
    check_fit(program, joint)
    solver = Solver(program, joint, joint.wrong)
    hazards = Hazards(joint, joint.wrong)
    states = [state for state in range(len(joint.pairs)) if hazards.is_unsafe(state)]
    solver.solve([solver.root(name, state) for name in program.names for state in states])
    facts = []
    for name in program.names:
        for state in states:
            terms = solver.solution(solver.root(name, state))
            facts.extend([(name, state, term) for term in sorted(set(terms))])
    return facts


def goes_wrong(program, joint, name):
    """True if some run that starts at the definition goes wrong."""
    check_start(program, joint, name)
    return can_reach(program, joint, name, joint.wrong)
