"""Points 69 to 71: whether an office is cleared, and why not."""

import random
import unittest

from drawingoffice.answers import judge
from drawingoffice.binders import fits
from drawingoffice.clearing import cleared, refusal, releasable, verdict, wrong_events
from drawingoffice.derivations import derivation_holds
from drawingoffice.errors import IsCleared, NeedsArguments, UnknownName, UnknownStart
from drawingoffice.joints import joined
from drawingoffice.players import sure
from drawingoffice.releases import release_card
from drawingoffice.replays import replay
from drawingoffice.rules import Rules
from drawingoffice.tables import goes_wrong
from small_cards import raised
from small_offices import all_stores
from small_programs import RELEASE, STOP
from small_shops import LOW, M, P, make_shop, random_shop

CUT, A = ("goes", ("main", "+cut")), ("goes", ("main", "+a"))


def main(body):
    return [("main", (), body)]


def do(*events):
    body = STOP
    for event in reversed(events):
        body = ("do", event, body)
    return body


def wrong_by_hand(office, name, start):
    """The wrong events that runs do, one after the other, and those that are fated."""
    joint = joined(office, start)
    done = [pair for pair in joint.wrong if goes_wrong(office.program, joint.judged([pair]), name)]
    return [(*joint.pairs[state], event) for state, event in done]


def late_runs(office):
    return [office.route.late_run(row) for row in office.route.late_rows()]


def is_fated_by_hand(office, content, event):
    """Point 70, case by case."""
    binder = office.binder
    run = binder.first_runs[content]
    if event != "release":
        return judge(binder, ("fails", run + (event,))) == "sure"
    if all(binder.store.end(run + steps) is not None for steps in late_runs(office)):
        return not sure(release_card(office, run))
    return any(judge(binder, ("fails", run + steps)) == "sure" for steps in late_runs(office))


class Clearing(unittest.TestCase):
    def check(self, office, expected, *, name="main", wrong=None, kind=None, late=None):
        """All that points 69 to 71 say of the office and the start `main`."""
        found = wrong_by_hand(office, name, "main")
        self.assertEqual(wrong_events(office, name, "main"), found)
        self.assertEqual(cleared(office, name, "main"), not found)
        fated = [told for told in found if is_fated_by_hand(office, told[0], told[2])]
        self.assertEqual(verdict(office, name, "main"), "doomed" if fated else "refused" if found else "cleared")
        if expected is not None:
            self.assertEqual(verdict(office, name, "main"), expected)
        if wrong is not None:
            self.assertEqual(found, wrong)
        self.check_releases(office, name)
        if not found:
            self.assertEqual(raised(refusal, office, name, "main"), (IsCleared, {}))
            return None
        told = self.check_refusal(office, name, fated or found)
        if kind is not None:
            self.assertEqual((told.kind, told.late), (kind, late))
        return told

    def check_releases(self, office, name):
        joint = joined(office, "main", checked=False)
        states = [state for state in range(len(joint.pairs)) if joint.next_state(state, "release") is not None]
        expected = [joint.pairs[state] for state in states
                    if goes_wrong(office.program, joint.judged([(state, "release")]), name)]
        self.assertEqual(releasable(office, name, "main"), expected)

    def check_refusal(self, office, name, ends):
        """A refusal held against replaying its steps, and its kind against what stands at its end."""
        told, joint, binder = refusal(office, name, "main"), joined(office, "main"), office.binder
        choices = [index for kind, index in told.steps if kind == "choose"]
        end, events, state, used = replay(office.program, joint, name, choices, limit=2000)
        self.assertEqual((end, events, used), ("wrong", told.events, len(choices)))
        self.assertEqual(told.events, [event for kind, event in told.steps if kind == "do"])
        self.assertEqual(told.run, ("main", *[event for event in events if event[0] in "+-"]))
        content, mode = joint.pairs[state]
        self.assertIn((content, mode, events[-1]), ends)
        self.assertEqual(told.store, binder.store)
        if events[-1] != "release":
            self.assertEqual((told.kind, told.late, told.card, told.derivation), ("step", None, None, []))
            self.assertIsNone(binder.store.end(told.run))
            return told
        self.assertEqual(binder.store.end(told.run), content)
        failing = [row for row in office.route.late_rows()
                   if binder.store.end(told.run + office.route.late_run(row)) is None]
        if failing:
            self.assertEqual((told.kind, told.late, told.card, told.derivation), ("late", failing[0], None, []))
        else:
            self.assertEqual((told.kind, told.late), ("limit", None))
            self.assertEqual(told.card.acts, release_card(office, told.run).acts)
            self.assertTrue(derivation_holds(told.card, told.derivation))
        return told

    def test_cleared(self):
        self.check(make_shop(main(RELEASE)), "cleared", wrong=[])
        self.check(make_shop(main(do("+a", "release", "-a", "release")), facts=[A]), "cleared")
        self.check(make_shop(main(("call", "main", ()))), "cleared")
        self.check(make_shop(main(STOP)), "cleared")

    def test_steps_that_do_not_lead_on(self):
        # Nothing is known of the revision, so a store that lets it go may fit, and one that does not.
        self.check(make_shop(main(do("+a"))), "refused", wrong=[(0, 0, "+a")], kind="step")
        # What was seen to fail is fated, and so is what cannot go on the sheet.
        self.check(make_shop(main(do("+a")), facts=[("fails", ("main", "+a"))]), "doomed", kind="step")
        self.check(make_shop(main(do("-cut"))), "doomed", wrong=[(0, 0, "-cut")], kind="step")
        self.check(make_shop(main(do("+cut", "+cut")), facts=[CUT]), "doomed", wrong=[(1, 0, "+cut")])
        # A fact that only together with the others says that the run fails.
        facts = [A, ("alike", ("main", "+a"), ("main",)), ("fails", ("main", "+a", "+a", "+cut"))]
        self.check(make_shop(main(do("+cut")), facts=facts), "doomed")

    def test_releases_that_no_setting_keeps(self):
        told = self.check(make_shop(main(do("+cut", "release")), facts=[CUT]), "doomed", wrong=[(1, 0, "release")],
                          kind="limit")
        self.assertEqual((told.run, told.events), (("main", "+cut"), ["+cut", "release"]))
        self.check(make_shop(main(do("+cut", "release")), facts=[CUT], waived=[LOW]), "cleared")
        self.check(make_shop(main(do("+cut", "release"))), "refused", wrong=[(0, 0, "+cut")], kind="step")
        late = make_shop(main(RELEASE), facts=[CUT], steps=[P, ("late", "t", ((), ("+cut",))), M])
        self.check(late, "doomed", wrong=[(0, 0, "release")], kind="limit")
        # All late revisions have gone, so the measures alone are left.
        before = make_shop(main(RELEASE), facts=[CUT], waived=[LOW], steps=[("late", "t", ((), ("+cut",))), P, M])
        self.check(before, "cleared")

    def test_late_runs_that_fail(self):
        steps = [("late", "t", ((), ("+a", "+a"), ("+cut",))), P, M]
        self.check(make_shop(main(RELEASE), steps=steps), "refused", kind="late", late=(1,))
        self.check(make_shop(main(RELEASE), steps=steps, facts=[("goes", ("main", "+a", "+a"))]), "refused", kind="late",
                   late=(2,))
        # The second option is open, the third one is known to fail.
        facts = [("fails", ("main", "+cut"))]
        self.check(make_shop(main(RELEASE), steps=steps, facts=facts), "doomed", kind="late", late=(1,))
        facts = [("fails", ("main", "+a", "+a"))]
        self.check(make_shop(main(RELEASE), steps=steps, facts=facts), "doomed", kind="late", late=(1,))

    def test_a_release_that_is_barred(self):
        rules = Rules(["release", "sign"], [[0, 1], [1, 1]], [(1, "release")])
        body = do("+cut", "sign", "release")
        self.check(make_shop(main(body), facts=[CUT], rules=rules), "cleared")
        self.check(make_shop(main(do("+cut", "release")), facts=[CUT], rules=rules), "doomed", wrong=[(1, 0, "release")])

    def test_some_wrong_events_are_fated(self):
        body = ("choose", (do("+a"), do("+cut", "release"), do("-cut")))
        told = self.check(make_shop(main(body), facts=[CUT]), "doomed",
                          wrong=[(0, 0, "+a"), (0, 0, "-cut"), (1, 0, "release")])
        self.assertIn(told.events[-1], ["-cut", "release"])
        body = ("choose", (do("+a"), do("release", "+a"), ("mode", (), do("-cut"))))
        self.check(make_shop(main(body), facts=[CUT]), "refused", wrong=[(0, 0, "+a")])

    def test_what_comes_behind_a_wrong_event_is_not_reached(self):
        body = do("+cut", "release", "-a")
        self.check(make_shop(main(body), facts=[CUT]), "doomed", wrong=[(1, 0, "release")])
        # Where releases are not checked the run goes on behind them.
        office = make_shop(main(do("+cut", "release", "-cut", "release")), facts=[CUT])
        self.assertEqual(releasable(office, "main", "main"), [(0, 0), (1, 0)])
        self.assertEqual(wrong_events(office, "main", "main"), [(1, 0, "release")])

    def test_calls(self):
        many = ("many", (("f", 1), ("x", 0)), ("choose", (("call", "x", ()), ("call", "f", (
            ("make", (), ("call", "many", (("use", "f"), ("use", "x")))),)))))
        step = ("make", ("k",), ("choose", (("do", "+a", ("call", "k", ())), ("do", "+cut", ("call", "k", ())))))
        start = ("main", (), ("call", "many", (step, ("make", (), RELEASE))))
        facts = [("alike", ("main", "+a"), ("main",)), CUT, ("alike", ("main", "+cut", "+a"), ("main", "+cut"))]
        self.check(make_shop([many, start], facts=facts), "doomed", wrong=[(1, 0, "+cut"), (1, 0, "release")])
        self.check(make_shop([many, start], facts=facts[:2]), "doomed",
                   wrong=[(1, 0, "+a"), (1, 0, "+cut"), (1, 0, "release")])

    def test_other_starts(self):
        office = make_shop(main(RELEASE))
        self.assertTrue(cleared(office, "main", "main"))
        low = office.binder.changes["cut"](office.binder.drawings["main"])
        more = type(office.binder)({"main": low, "z": office.binder.drawings["main"]}, office.binder.changes, [])
        office = office.replaced(binder=more)
        self.assertEqual([verdict(office, "main", start) for start in ["main", "z"]], ["doomed", "cleared"])
        self.assertEqual(wrong_events(office, "main", "main"), [(0, 0, "release")])
        self.assertEqual(releasable(office, "main", "z"), [(1, 0)])
        self.assertEqual(refusal(office, "main", "main").run, ("main",))

    def test_errors_in_order(self):
        office = make_shop([("main", (), RELEASE), ("dx", (("x", 0),), STOP)])
        for action in [cleared, wrong_events, releasable, verdict, refusal]:
            self.assertEqual(raised(action, office, "none", "no"), (UnknownStart, {"name": "no"}))
            self.assertEqual(raised(action, office, "none", "main"), (UnknownName, {"name": "none"}))
            self.assertEqual(raised(action, office, "dx", "main"), (NeedsArguments, {"name": "dx"}))
        self.assertEqual(raised(refusal, office, "main", "main"), (IsCleared, {}))

    def test_what_is_returned_is_new(self):
        office = make_shop(main(do("+cut", "release")), facts=[CUT])
        told = refusal(office, "main", "main")
        before = (told.steps, told.events, told.derivation, wrong_events(office, "main", "main"))
        for row in [told.steps, told.events, told.derivation, wrong_events(office, "main", "main"),
                    releasable(office, "main", "main")]:
            self.assertTrue(row)
            row.clear()
        self.assertEqual((told.steps, told.events, told.derivation, wrong_events(office, "main", "main")), before)
        self.assertIsInstance(told.run, tuple)

    def test_held_against_small_stores(self):
        stores = [store for contents in [1, 2] for store in all_stores(contents, ["main"], ["a", "cut"])]
        verdicts, kinds = {}, {}
        for seed in range(600):
            office = random_shop(seed, depth=random.Random(seed).choice([2, 3, 4]))
            if office is None:
                continue
            told = self.check(office, None, name="d0")
            answer = verdict(office, "d0", "main")
            verdicts[answer] = verdicts.get(answer, 0) + 1
            if told is not None:
                kinds[told.kind] = kinds.get(told.kind, 0) + 1
            fitting = [store for store in stores if fits(office.binder, store)][:12]
            wrong = [goes_wrong(office.program, joined(office, "main", store=store), "d0") for store in fitting]
            if answer == "cleared":
                self.assertFalse(any(wrong))
            if answer == "doomed":
                self.assertTrue(all(wrong))
        self.assertGreater(min(verdicts.values()), 20, verdicts)
        self.assertGreater(min(kinds.values()), 8, kinds)
        self.assertEqual((len(verdicts), len(kinds)), (3, 3))


if __name__ == "__main__":
    unittest.main()
