"""Small rules for the tests, and the histories that they let, played out directly."""

import itertools
import random

from drawingoffice.rules import Rules

EVENTS = ["release", "+a", "b"]


def random_rules(seed, *, most_states=3, share=0.3):
    chance = random.Random(seed)
    states = chance.randint(1, most_states)
    own = chance.sample(EVENTS, chance.randint(0, len(EVENTS)))
    moves = [[chance.randrange(states) for _ in own] for _ in range(states)]
    barred = [(state, event) for state in range(states) for event in own if chance.random() < share]
    return Rules(own, moves, barred)


def all_histories(events, longest):
    """All histories of these events, the shorter ones first, those of one length as lists ascend."""
    return [list(row) for size in range(longest + 1) for row in itertools.product(sorted(events), repeat=size)]


def lets_by_hand(rules, history):
    """The state after the history by the lists of the rules; None if they do not let it."""
    state = 0
    for event in history:
        if (state, event) in rules.barred:
            return None
        if event in rules.events:
            state = rules.moves[state][rules.events.index(event)]
    return state
