"""How much room there is until an office is not cleared any more (point 74 of the document)."""

from drawingoffice.clearing import cleared, releasable
from drawingoffice.derivations import core
from drawingoffice.errors import NotCleared, UnknownName
from drawingoffice.hitting import least_hitting
from drawingoffice.limits import ascending
from drawingoffice.margins import widest
from drawingoffice.players import sure
from drawingoffice.releases import Shop


def widest_release(office, name, start):
    """The greatest number by which the measures of the route can be widened, or None if there is no greatest one."""
    if not cleared(office, name, start):
        raise NotCleared()
    shop = _shop(office)
    # A cleared office makes the same releases with other measures as long as the cards of all of them are sure.
    margins = [widest(shop.card_at(content)) for content in _contents(office, name, start)]
    return min([int(margin) for margin in margins if margin is not None], default=None)


def latest_release(office, name, start, *, step):
    """The greatest index at which the measure step or late step of the route leaves the office cleared."""
    is_cleared = cleared(office, name, start)
    if step not in [other[1] for other in office.route.steps if other[0] != "part"]:
        raise UnknownName(step)
    if not is_cleared:
        raise NotCleared()
    for to in reversed(range(len(office.route.steps))):
        if cleared(office.replaced(route=office.route.moved(step, to=to)), name, start):
            return to
    return None


def fewest_waivers(office, name, start):
    """The fewest limits that must be waived, too, so that the office is cleared; None if no limits are enough."""
    if cleared(office, name, start):
        return []
    asked = ascending([limit for sheet in office.binder.sheets for limit in sheet])
    if not cleared(office.replaced(waived=office.waived + asked), name, start):
        return None
    shop = _shop(office)
    releases = [shop.asked_rules(content) for content in _contents(office, name, start)]
    # Each core is a list of limits of which at least one must be waived.
    cores = []
    while True:
        waived = least_hitting(cores)
        found = [_core_without(shop, asked_rules, waived) for asked_rules in releases]
        open_cores = [limits for limits in found if limits]
        if not open_cores:
            return waived
        cores.extend(open_cores)


def _shop(office):
    return Shop(office, office.binder.store, office.binder.sheets)


def _contents(office, name, start):
    """The contents at which some run does a release, each once."""
    return sorted(set([content for content, _ in releasable(office, name, start)]))


def _core_without(shop, asked_rules, waived):
    """Limits that no setting keeps together, none of them waived, in ascending order; none if the card is sure."""
    asked = [(limit, act) for limit, act in asked_rules if limit not in waived]
    card = shop.card_with([act for _, act in asked])
    if sure(card):
        return []
    return ascending([asked[index][0] for index in core(card)])
