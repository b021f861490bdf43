"""Point 62: joints."""

import random
import unittest

from drawingoffice.binders import Binder, fits
from drawingoffice.catalogs import Catalog
from drawingoffice.changes import Change
from drawingoffice.errors import DoesNotFit, UnknownEvent, UnknownStart, UnknownState
from drawingoffice.joints import joined
from drawingoffice.lists import Steps
from drawingoffice.players import sure
from drawingoffice.routes import Route
from drawingoffice.rules import Rules
from drawingoffice.sheets import Sheet
from drawingoffice.stocks import Stock
from drawingoffice.stores import Store
from small_cards import card_from, raised
from small_offices import random_facts, sheets_by_hand
from small_programs import make_office

LOW = ("reach", "p", "frame", (3, ()))
HIGH = ("reach", "p", "frame", (7, ()))
ROOM = ("room", "p", "frame", "aa", (1, ()))
CHANGES = {"cut": Change([HIGH], [LOW]), "a": Change()}
FACTS = [("goes", ("main", "+cut")), ("alike", ("main", "+a", "+a"), ("main",)), ("alike", ("z",), ("main",))]


def sample(facts=(), *, rules=None, late=None, starts=("main", "z"), **more):
    route = Route([("part", "p")] if late is None else [("late", "t", late), ("part", "p")])
    rules = Rules(["sign", "release"], [[1, 1], [1, 1]], [(0, "release")]) if rules is None else rules
    stock = Stock(Catalog({"a": 2}), Steps([]))
    return make_office(route=route, stock=stock, rules=rules, changes=CHANGES, facts=facts,
                       drawings={start: Sheet([HIGH, ROOM]) for start in starts}, **more)


def end_of(store, content, steps):
    """The content to which the steps lead, by the list of the moves."""
    for step in steps:
        sources, targets = (0, 2) if step[0] == "+" else (2, 0)
        found = [move[targets] for move in store.moves if move[1] == step[1:] and move[sources] == content]
        content = found[0] if found else None
    return content


def is_right_by_hand(office, store, content):
    """True if each late run goes from the content and the card with the rules of all rows is sure."""
    sheets = sheets_by_hand(store, office.binder.drawings, office.binder.changes)
    rows = office.route.late_rows()
    ends = [end_of(store, content, office.route.late_run(row)) for row in rows]
    if None in ends:
        return False
    acts = [("turn", step[1], len(step[2])) if step[0] == "late" else step for step in office.route.steps]
    names = [step[1] for step in office.route.steps if step[0] == "late"]
    for row, end in zip(rows, ends):
        for limit in sheets[end] - set(office.waived):
            when = list(zip(names, row))
            if limit[0] == "room":
                acts.append(("rule", limit[1], limit[2], office.stock.length(limit[3]) + limit[4][0], when))
            else:
                acts.append(("rule", limit[2], limit[1], -limit[3][0], when))
    return sure(card_from(acts))


def walked(office, start, store, checked):
    """Point 62 by its words: the pairs, the next states and the wrong pairs."""
    binder, rules = office.binder, office.rules
    events = sorted({sign + name for name in binder.changes for sign in "+-"} | {"release"}
                    | {event for event in rules.events if event[0] not in "+-"})
    pairs, after, wrong = [(store.starts[start], 0)], {}, []
    for state, (content, mode) in enumerate(pairs):
        for event in events:
            if (mode, event) in rules.barred:
                continue
            target = content
            if event[0] in "+-":
                target = end_of(store, content, [event])
            elif event == "release" and checked and not is_right_by_hand(office, store, content):
                target = None
            if target is None:
                wrong.append((state, event))
                continue
            then = rules.moves[mode][rules.events.index(event)] if event in rules.events else mode
            if (target, then) not in pairs:
                pairs.append((target, then))
            after[state, event] = pairs.index((target, then))
    return pairs, events, after, wrong


def described(joint):
    after = {(state, event): joint.next_state(state, event)
             for state in range(len(joint.pairs)) for event in joint.events}
    return joint.pairs, joint.events, {key: value for key, value in after.items() if value is not None}, joint.wrong


class Joints(unittest.TestCase):
    def check(self, office, start, store=None, checked=True):
        joint = joined(office, start, store=store, checked=checked)
        told = walked(office, start, office.binder.store if store is None else store, checked)
        self.assertEqual(described(joint), told)
        return joint

    def test_events(self):
        rules = Rules(["z", "+no", "sign", "+cut"], [[0, 0, 0, 0]], [])
        self.assertEqual(joined(sample(rules=rules), "main").events,
                         ["+a", "+cut", "-a", "-cut", "release", "sign", "z"])
        self.assertEqual(joined(make_office(), "main").events, ["release"])

    def test_the_numbering(self):
        joint = self.check(sample(FACTS), "main")
        self.assertEqual(joint.pairs, [(0, 0), (1, 0), (2, 0), (0, 1), (1, 1), (2, 1)])
        self.assertEqual(joint.next_state(0, "+a"), 1)
        self.assertEqual(self.check(sample(), "main").pairs, [(0, 0), (0, 1)])

    def test_a_start_on_a_content_with_another_start(self):
        facts = FACTS[:2]
        self.assertEqual(self.check(sample(facts), "z").pairs, [(1, 0), (1, 1)])
        self.assertEqual(described(self.check(sample(FACTS), "z")), described(self.check(sample(FACTS), "main")))

    def test_events_that_the_rules_bar_are_not_wrong(self):
        rules = Rules(["+cut", "release", "sign"], [[0, 0, 1], [1, 1, 0]], [(0, "+cut"), (0, "release"), (1, "sign")])
        joint = self.check(sample(FACTS, rules=rules), "main")
        self.assertEqual((joint.next_state(0, "+cut"), joint.pairs[joint.next_state(0, "sign")]), (None, (0, 1)))
        self.assertNotIn((0, "+cut"), joint.wrong)
        # Where an event leads that is barred plays no part.
        every = Rules(["sign"], [[0]], [(0, "sign")])
        self.assertEqual(self.check(sample(rules=every), "main").pairs, [(0, 0)])

    def test_releases(self):
        late = (("+cut",), ())
        joint = self.check(sample(FACTS, late=late, rules=Rules([], [[]], [])), "main")
        # The places 5 to 7 suit at first, nothing suits behind the cut.
        self.assertIn((0, "release"), joint.wrong)
        joint = self.check(sample(FACTS, late=late, rules=Rules([], [[]], []), waived=[LOW]), "main")
        self.assertEqual(joint.next_state(0, "release"), 0)
        # Where the cut was made it cannot be made once more, so the late run fails.
        content = joint.next_state(0, "+cut")
        self.assertIn((content, "release"), joint.wrong)

    def test_unchecked_releases_lead_on(self):
        for facts in [(), FACTS]:
            office = sample(facts, late=(("+cut",), ()))
            joint = self.check(office, "main", checked=False)
            self.assertNotIn("release", [event for _, event in joint.wrong])
            self.assertIsNone(joint.next_state(0, "release"))
            self.assertIsNotNone(joint.next_state(joint.next_state(0, "sign"), "release"))

    def test_a_store_that_is_passed(self):
        office = sample([("goes", ("main", "+a"))], starts=["main"])
        store = Store(4, {"main": 2, "other": 3}, [(2, "a", 0), (0, "a", 2), (3, "none", 3), (2, "cut", 1)])
        self.assertTrue(fits(office.binder, store))
        joint = self.check(office, "main", store)
        self.assertEqual([pair for pair in joint.pairs if pair[1] == 0], [(2, 0), (0, 0), (1, 0)])
        self.check(office, "main", store, checked=False)

    def test_errors(self):
        office = sample(FACTS)
        for more in [{}, {"store": Store(0, {}, [])}, {"checked": False}]:
            self.assertEqual(raised(joined, office, "other", **more), (UnknownStart, {"name": "other"}))
        for store in [Store(0, {}, []), Store(1, {"main": 0, "z": 0}, []), Store(1, {"main": 0}, [(0, "cut", 0)])]:
            self.assertEqual(raised(joined, office, "main", store=store), (DoesNotFit, {}))
        # A start that only the store has is not one of the binder.
        store = Store(1, {"main": 0, "other": 0}, [])
        self.assertEqual(raised(joined, sample(starts=["main"]), "other", store=store), (UnknownStart, {"name": "other"}))

    def test_next_state_errors(self):
        joint = joined(sample(FACTS), "main")
        for state in [-1, 6, 100]:
            self.assertEqual(raised(joint.next_state, state, "no"), (UnknownState, {"state": state}))
        for event in ["no", "", "+no", "cut"]:
            self.assertEqual(raised(joint.next_state, 5, event), (UnknownEvent, {"event": event}))

    def test_judged(self):
        joint = joined(sample(FACTS), "main")
        pairs, events, after, wrong = described(joint)
        alive = sorted([*after, *wrong], key=lambda pair: (pair[0], events.index(pair[1])))
        every = [(state, event) for state in range(len(pairs)) for event in events]
        self.assertGreater(len(every), len(alive))
        none = joint.judged([])
        self.assertEqual(described(none), (pairs, events, after, []))
        self.assertEqual(described(joint.judged(every)), (pairs, events, {}, alive))
        self.assertEqual(described(joint.judged(joint.wrong)), described(joint))
        strange = [(100, "release"), (-1, "sign"), (0, "no"), (0, "release")]
        self.assertEqual(described(joint.judged(strange)), (pairs, events, after, []))
        # What was wrong is ended where it is not judged, and stays so.
        self.assertEqual(described(none.judged(every)), (pairs, events, {}, list(after)))
        one = joint.judged([(0, "sign"), wrong[0], (0, "sign")])
        self.assertEqual(one.wrong, sorted([(0, "sign"), wrong[0]], key=alive.index))
        self.assertIsNone(one.next_state(0, "sign"))
        self.assertEqual(one.judged([(1, "sign")]).wrong, [(1, "sign")])
        self.assertIsNone(one.judged([(1, "sign")]).next_state(0, "sign"))

    def test_copies(self):
        joint = joined(sample(FACTS), "main")
        before = described(joint)
        judged = [(0, "sign")]
        other = joint.judged(judged)
        judged.clear()
        for told in [joint.pairs, joint.events, joint.wrong, other.pairs, other.wrong]:
            told.clear()
        self.assertEqual((described(joint), other.wrong), (before, [(0, "sign")]))

    def test_held_against_walking_by_hand(self):
        sizes, wrongs = set(), 0
        for seed in range(150):
            chance = random.Random(seed)
            facts = random_facts(seed, ["main", "z"], ["a", "cut"], most=4, longest=3)
            own = chance.sample(["release", "sign", "+cut", "-a"], chance.randint(0, 4))
            modes = chance.randint(1, 3)
            rules = Rules(own, [[chance.randrange(modes) for _ in own] for _ in range(modes)],
                          [(mode, event) for mode in range(modes) for event in own if chance.random() < 0.2])
            late = chance.choice([None, ((),), (("+cut",), ()), (("+a",), ("-cut",))])
            drawings = {start: Sheet([HIGH, ROOM]) for start in ["main", "z"]}
            try:
                Binder(drawings, CHANGES, facts)
            except ValueError:
                continue
            office = sample(facts, rules=rules, late=late, waived=chance.choice([[], [LOW]]))
            for start in ["main", "z"]:
                joint = self.check(office, start, checked=chance.random() < 0.7)
                sizes.add(len(joint.pairs))
                wrongs += len(joint.wrong)
                marked = [(state, event) for state in range(-1, len(joint.pairs)) for event in [*joint.events, "no"]
                          if chance.random() < 0.5]
                _, _, after, wrong = described(joint)
                told = [pair for pair in marked if pair in after or pair in wrong]
                self.assertEqual(described(joint.judged(marked[::-1]))[2:],
                                 ({pair: after[pair] for pair in after if pair not in marked}, told))
        self.assertGreater(len(sizes), 6)
        self.assertGreater(wrongs, 500)


if __name__ == "__main__":
    unittest.main()
