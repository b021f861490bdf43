"""Small cards for the tests, and point 14 of the document played out directly on them."""

import random

from drawingoffice.cards import Card


def raised(action, *args, **more):
    """The error that a call raises, as its class and its fields; None if it raises none."""
    try:
        action(*args, **more)
    except Exception as error:
        return type(error), vars(error)
    return None


def card_from(acts):
    """A card with these acts, made by the methods of a card."""
    card = Card()
    for act in acts:
        if act[0] == "measure":
            card.measure(act[1], low=act[2], high=act[3])
        elif act[0] == "turn":
            card.turn(act[1], options=act[2])
        elif act[0] == "part":
            card.part(act[1])
        else:
            card.rule(act[1], act[2], least=act[3], when=act[4])
    return card


def random_card(seed, kinds, *, rules=5, slack=3, spread=2, times=1):
    """A card with steps of these kinds (a letter each: m, t, p) in random order and random rules."""
    chance = random.Random(seed)
    letters = list(kinds)
    chance.shuffle(letters)
    card = Card()
    measures, turns, parts = [], [], ["frame"]
    for at, letter in enumerate(letters):
        name = letter + str(at)
        if letter == "m":
            low = chance.randint(-1, 1)
            measures.append(card.measure(name, low=low, high=low + chance.randint(0, spread)))
        elif letter == "t":
            card.turn(name, options=2)
            turns.append(name)
        else:
            card.part(name)
            parts.append(name)
    for _ in range(rules):
        upper, lower = chance.sample(parts, 2)
        form = chance.randint(-slack, 1)
        for measure in measures:
            if chance.random() < 0.5:
                form = form + measure * chance.randint(-times, times)
        when = [(turn, chance.randrange(2)) for turn in turns if chance.random() < 0.4]
        card.rule(upper, lower, least=form, when=when)
    return card


def holds_at_end(card, values):
    """True if every rule that counts holds for the values of all steps."""
    found = {step[1]: value for step, value in zip(card.steps, values)}
    found["frame"] = 0
    for upper, lower, least, when in card.rules:
        if all(found[turn] == option for turn, option in when):
            worth = least.constant + sum(term[1] * found[term[0]] for term in least.terms)
            if found[upper] - found[lower] < worth:
                return False
    return True


def window(card, told):
    """A number so great that no end of the places of the next step lies beyond it on either side."""
    worst = 0
    for upper, lower, least, when in card.rules:
        worst = max(worst, abs(least.constant) + sum(abs(t) * max(abs(a), abs(b)) for _, t, a, b in least.terms))
    steps = card.steps
    later = len([step for step in steps[len(told) + 1:] if step[0] == "part"])
    reach = max([abs(value) for step, value in zip(steps, told) if step[0] == "part"], default=0)
    return reach + worst * 2 ** later


def saved(card, told):
    """Point 14, word by word, with the places that can matter."""
    told = list(told)
    steps = card.steps
    if len(told) == len(steps):
        return holds_at_end(card, told)
    step = steps[len(told)]
    if step[0] == "part":
        return any(saved(card, told + [place]) for place in nearest_first(window(card, told)))
    return all(saved(card, told + [value]) for value in values_of(step))


def nearest_first(most):
    return sorted(range(-most, most + 1), key=abs)


def values_of(step):
    """All values of a measure step or a turn step."""
    return range(step[2], step[3] + 1) if step[0] == "measure" else range(step[2])


def saving_directly(card, told):
    """The pair of point 19, found by trying all places that can matter; None if the state is lost."""
    beyond = window(card, told) + 1
    places = [place for place in range(-beyond, beyond + 1) if saved(card, list(told) + [place])]
    if not places:
        return None
    assert places == list(range(places[0], places[-1] + 1))
    return None if places[0] == -beyond else places[0], None if places[-1] == beyond else places[-1]


def states(card, count, places=(-2, 0, 1)):
    """All states with `count` values in which the parts have one of these places."""
    rows = [[]]
    for step in card.steps[:count]:
        values = places if step[0] == "part" else values_of(step)
        rows = [row + [value] for row in rows for value in values]
    return rows


def small_cards():
    """Many small cards, sure and unsure ones."""
    cards = []
    for seed in range(60):
        cards.append(random_card(seed, "mp", rules=3))
        cards.append(random_card(seed, "tp", rules=4))
        cards.append(random_card(seed, "mtp", rules=4, times=2))
        cards.append(random_card(seed, "mpp", rules=4, slack=2))
        cards.append(random_card(seed, "tpp", rules=5))
    for seed in range(30):
        cards.append(random_card(seed, "mtpp", rules=5, slack=2, spread=1))
        cards.append(random_card(seed, "mmpp", rules=5, slack=2, spread=1))
        cards.append(random_card(seed, "ppp", rules=6, slack=2))
    return cards
