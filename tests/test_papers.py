"""Points 49 and 50: papers."""

import random
import unittest

from drawingoffice.answers import judge
from drawingoffice.binders import Binder
from drawingoffice.changes import Change
from drawingoffice.errors import BadFact, NotForced, UnknownChange, UnknownStart
from drawingoffice.papers import Paper, contradicts, paper_flaw, papers
from drawingoffice.sheets import Sheet
from small_cards import raised
from small_offices import LOW, MID, all_runs, limits_behind, turned
from test_answers import small_binders
from test_facts import all_facts

MAIN, Q = ("main",), ("q",)
A, AB, QA, QAB = ("main", "+a"), ("main", "+a", "+b"), ("q", "+a"), ("q", "+a", "+b")
CONTRARY = {"goes": "fails", "fails": "goes", "alike": "apart", "apart": "alike"}


def leads(place, step, target):
    return target == place + (step,) or place == target + (turned(step),)


def places_of(facts):
    seen = [run for fact in facts if fact[0] != "fails" for run in fact[1:]]
    found = {run[:size] for run in seen for size in range(1, len(run) + 1)}
    return found | {run[:1] for fact in facts for run in fact[1:]}


class Merged:
    """Pairs that are symmetric and transitive, as a list of sets."""

    def __init__(self):
        self.sets = []

    def one(self, first, second):
        return first == second or any(first in some and second in some for some in self.sets)

    def add(self, first, second):
        touched = [some for some in self.sets if first in some or second in some]
        self.sets = [some for some in self.sets if some not in touched] + [{first, second}.union(*touched)]


def row_is_right(row, facts, merged):
    first, second, reason = row
    if not {first, second} <= places_of(facts):
        return False
    if reason[0] == "seen":
        return reason[1] in range(len(facts)) and facts[reason[1]] == ("alike", first, second)
    _, step, one, two = reason
    if not {one, two} <= places_of(facts):
        return False
    return leads(one, step, first) and leads(two, step, second) and merged.one(one, two)


def trace_is_right(trace, run, facts, merged):
    befores = [run[:1]] + [target for _, target in trace]
    return len(trace) == len(run) - 1 and all(
        {source, target} <= places_of(facts) and leads(source, step, target) and merged.one(before, source)
        for (source, target), step, before in zip(trace, run[1:], befores))


def flaw_by_hand(facts, claim, rows, traces):
    """Point 50's first flaw, by the words of point 49."""
    merged = Merged()
    for at, row in enumerate(rows):
        if not row_is_right(row, facts, merged):
            return "row", at
        merged.add(row[0], row[1])
    if len(traces) != len(claim) - 1:
        return "count", len(traces)
    for at, trace in enumerate(traces):
        if not trace_is_right(trace, claim[at + 1], facts, merged):
            return "trace", at
    ends = [trace[-1][1] if trace else run[:1] for trace, run in zip(traces, claim[1:])]
    return None if merged.one(ends[0], ends[-1]) else ("end", 0)


def parts(paper):
    return paper.facts, paper.claim, paper.rows, paper.traces


class Flaws(unittest.TestCase):
    def check(self, facts, claim, rows, traces, flaw):
        self.assertEqual(paper_flaw(Paper(facts, claim, rows, traces)), flaw)
        self.assertEqual(flaw_by_hand(facts, claim, rows, traces), flaw)

    def test_no_rows(self):
        facts = [("goes", AB)]
        self.check(facts, ("goes", A), [], [[(MAIN, A)]], None)
        self.check(facts, ("goes", AB + ("-b",)), [], [[(MAIN, A), (A, AB), (AB, A)]], None)
        self.check(facts, ("alike", AB + ("-b",), A), [], [[(MAIN, A), (A, AB), (AB, A)], [(MAIN, A)]], None)
        self.check(facts, ("goes", QA), [], [[(Q, QA)]], ("trace", 0))

    def test_nothing_to_trace(self):
        self.check([], ("goes", MAIN), [], [[]], None)
        # The end of a trace without steps need not be a place of the facts.
        self.check([], ("alike", MAIN, MAIN), [], [[], []], None)
        self.check([], ("alike", MAIN, Q), [], [[], []], ("end", 0))
        self.check([("goes", A)], ("alike", A, Q), [], [[(MAIN, A)], []], ("end", 0))

    def test_the_number_of_traces(self):
        facts = [("goes", A)]
        trace = [(MAIN, A)]
        for traces in [[], [trace, trace], [trace, [], []]]:
            self.check(facts, ("goes", A), [], traces, ("count", len(traces)))
        for traces in [[], [trace], [trace, trace, trace]]:
            self.check(facts, ("alike", A, A), [], traces, ("count", len(traces)))
        self.check(facts, ("alike", A, A), [], [trace, trace], None)

    def test_seen_rows(self):
        facts = [("goes", A), ("alike", A, QA)]
        ends = ("alike", A, QA)
        traces = [[(MAIN, A)], [(Q, QA)]]
        self.check(facts, ends, [(A, QA, ("seen", 1))], traces, None)
        self.check(facts, ends, [(QA, A, ("seen", 1))], traces, ("row", 0))
        self.check(facts, ends, [(A, QA, ("seen", 0))], traces, ("row", 0))
        for index in (2, -1, -2, 10 ** 60 - 1):
            self.check(facts, ends, [(A, QA, ("seen", 1)), (A, QA, ("seen", index))], traces, ("row", 1))
        self.check(facts, ends, [], traces, ("end", 0))
        self.check(facts, ("alike", QA, A), [(A, QA, ("seen", 1))], traces[::-1], None)

    def test_a_row_that_is_right_only_because_of_an_earlier_row(self):
        facts = [("goes", AB), ("goes", QAB), ("alike", MAIN, Q)]
        seen = (MAIN, Q, ("seen", 2))
        one = (A, QA, ("step", "+a", MAIN, Q))
        two = (AB, QAB, ("step", "+b", A, QA))
        back = (MAIN, Q, ("step", "-a", A, QA))
        claim, traces = ("alike", AB, QAB), [[(MAIN, A), (A, AB)], [(Q, QA), (QA, QAB)]]
        self.check(facts, claim, [seen, one, two], traces, None)
        self.check(facts, claim, [seen, one, two, back, seen], traces, None)
        self.check(facts, claim, [one, seen, two], traces, ("row", 0))
        self.check(facts, claim, [seen, two, one], traces, ("row", 1))
        self.check(facts, claim, [seen, one], traces, ("end", 0))
        # A trace may go on from a place that is merged with the one that it reached.
        self.check(facts, claim, [seen, one, two], [[(Q, QA), (A, AB)], [(MAIN, A), (QA, QAB)]], None)
        self.check(facts, claim, [seen, one, two], [traces[0], [(Q, QA), (AB, QAB)]], ("trace", 1))
        self.check(facts, ("goes", AB), [seen], [[(Q, QA), (A, AB)]], ("trace", 0))

    def test_pairs_are_symmetric_and_transitive(self):
        facts = [("alike", MAIN, Q), ("alike", Q, ("r",)), ("goes", A), ("goes", ("r", "+a"))]
        rows = [(MAIN, Q, ("seen", 0)), (Q, ("r",), ("seen", 1)), (("r", "+a"), A, ("step", "+a", ("r",), MAIN))]
        self.check(facts, ("alike", A, ("r", "+a")), rows, [[(MAIN, A)], [(("r",), ("r", "+a"))]], None)
        self.check(facts, ("alike", A, ("r", "+a")), rows[::2], [[(MAIN, A)], [(("r",), ("r", "+a"))]], ("row", 1))

    def test_steps_that_do_not_lead(self):
        facts = [("goes", AB), ("goes", QAB), ("alike", MAIN, Q)]
        seen = (MAIN, Q, ("seen", 2))
        for row in [(A, QA, ("step", "+b", MAIN, Q)), (A, QA, ("step", "-a", MAIN, Q)), (MAIN, Q, ("step", "+a", A, QA)),
                    (A, QA, ("step", "+a", Q, MAIN)), (AB, QA, ("step", "+a", MAIN, Q)), (A, QAB, ("step", "+a", MAIN, Q))]:
            self.check(facts, ("goes", MAIN), [seen, row], [[]], ("row", 1))

    def test_a_step_that_leads_to_two_places(self):
        facts = [("goes", ("main", "-a", "+a"))]
        row = (MAIN, ("main", "-a", "+a"), ("step", "+a", ("main", "-a"), ("main", "-a")))
        self.check(facts, ("alike", MAIN, ("main", "-a", "+a")), [row],
                   [[], [(MAIN, ("main", "-a")), (("main", "-a"), ("main", "-a", "+a"))]], None)

    def test_what_is_no_place_of_the_facts(self):
        facts = [("goes", A), ("fails", ("q", "+a", "+b"))]
        # The start of a fails fact is a place, its other prefixes are not.
        self.check(facts, ("alike", Q, Q), [], [[], []], None)
        self.check(facts, ("goes", QA), [], [[(Q, QA)]], ("trace", 0))
        self.check(facts, ("goes", AB), [], [[(MAIN, A), (A, AB)]], ("trace", 0))
        for row in [(QA, QA, ("step", "+a", Q, Q)), (AB, AB, ("step", "+b", A, A)), (A, A, ("step", "-b", AB, AB)),
                    (("z",), ("z",), ("step", "-a", A, A)), (Q, Q, ("step", "-a", QA, QA))]:
            self.check(facts, ("goes", MAIN), [row], [[]], ("row", 0))
        self.check(facts, ("goes", MAIN), [(A, A, ("step", "+a", MAIN, MAIN))], [[]], None)
        self.check([("alike", Q, Q)], ("goes", MAIN), [(Q, Q, ("seen", 0))], [[]], None)
        self.check(facts + [("goes", ("q", "+c"))], ("goes", QA), [], [[(Q, QA)]], ("trace", 0))

    def test_a_row_with_one_place_that_the_facts_do_not_have(self):
        facts = [("alike", A, QA), ("goes", QAB)]
        seen = (A, QA, ("seen", 0))
        claim, traces = ("goes", QAB), [[(Q, QA), (QA, QAB)]]
        self.check(facts, claim, [seen, (AB, QAB, ("step", "+b", A, QA))], traces, ("row", 1))
        self.check(facts, claim, [seen, (QAB, AB, ("step", "+b", QA, A))], traces, ("row", 1))
        self.check(facts + [("goes", AB)], claim, [seen, (AB, QAB, ("step", "+b", A, QA))], traces, None)

    def test_traces(self):
        facts = [("goes", AB)]
        for trace in [[], [(MAIN, A)], [(MAIN, A), (A, AB), (AB, A)], [(A, AB), (MAIN, A)], [(MAIN, A), (MAIN, A)],
                      [(MAIN, MAIN), (A, AB)], [(A, MAIN), (A, AB)], [(MAIN, A), (AB, A)], [(Q, QA), (A, AB)]]:
            self.check(facts, ("goes", AB), [], [trace], ("trace", 0))
            self.check(facts, ("alike", AB, AB), [], [[(MAIN, A), (A, AB)], trace], ("trace", 1))

    def test_the_first_flaw(self):
        facts = [("goes", A)]
        bad = (A, A, ("seen", 0))
        self.check(facts, ("goes", A), [bad], [], ("row", 0))
        self.check(facts, ("goes", A), [], [[], []], ("count", 2))
        self.check(facts, ("alike", A, MAIN), [], [[], [(MAIN, A)]], ("trace", 0))
        self.check(facts, ("alike", A, MAIN), [], [[(MAIN, A)], []], ("end", 0))


class Papers(unittest.TestCase):
    def test_each_answer_held_against_the_list_of_the_point(self):
        kinds = set()
        for binder in small_binders(150, most=5):
            for fact in all_facts(all_runs(list(binder.drawings), ["a", "b"], 1))[::5] + binder.facts:
                answer = judge(binder, fact)
                kinds.add((fact[0], answer))
                if answer == "open":
                    self.assertEqual(raised(papers, binder, fact), (NotForced, {}))
                    continue
                found = papers(binder, fact)
                turned_fact = (CONTRARY[fact[0]],) + fact[1:]
                if answer == "never":
                    expected = [(None, fact)]
                elif fact[0] in ("goes", "alike"):
                    expected = [(fact, None)]
                elif fact[0] == "fails":
                    expected = [(None, turned_fact)]
                else:
                    expected = [(("goes", fact[1]), None), (("goes", fact[2]), None), (None, turned_fact)]
                self.assertEqual(len(found), len(expected))
                for paper, (claim, supposed) in zip(found, expected):
                    self.check_paper(binder, paper, claim, supposed)
        self.assertEqual(len(kinds), 12, kinds)

    def check_paper(self, binder, paper, claim, supposed):
        self.assertIsNone(paper_flaw(paper))
        self.assertIsNone(flaw_by_hand(*parts(paper)))
        self.assertEqual(paper.facts, binder.facts + ([] if supposed is None else [supposed]))
        self.assertIn(paper.claim[0], ("goes", "alike"))
        self.assertEqual(contradicts(binder, paper), self.contradicts_by_hand(binder, paper))
        if claim is not None:
            self.assertEqual(paper.claim, claim)
        else:
            self.assertIs(contradicts(binder, paper), True)

    def contradicts_by_hand(self, binder, paper):
        claim = paper.claim
        if (CONTRARY[claim[0]],) + claim[1:] in paper.facts:
            return True
        left = [limits_behind(binder.drawings[run[0]], binder.changes, run[1:]) for run in claim[1:]]
        if claim[0] == "goes":
            return left[0] is None
        return None not in left and left[0] != left[1]

    def test_papers_that_are_changed_in_one_place(self):
        chance = random.Random(50)
        flaws = {}
        for binder in small_binders(60, most=6):
            facts = all_facts(all_runs(list(binder.drawings), ["a", "b"], 1)) + binder.facts
            for fact in chance.sample(facts, 12) + binder.facts:
                if judge(binder, fact) == "open":
                    continue
                for paper in papers(binder, fact):
                    for _ in range(4):
                        told = self.spoilt(chance, *parts(paper))
                        flaw = flaw_by_hand(*told)
                        self.assertEqual(paper_flaw(Paper(*told)), flaw)
                        kind = flaw and flaw[0]
                        flaws[kind] = flaws.get(kind, 0) + 1
        self.assertEqual(set(flaws), {None, "row", "count", "trace", "end"})
        self.assertGreater(min(flaws.values()), 10)

    def spoilt(self, chance, facts, claim, rows, traces):
        """The parts of a paper with one place changed."""
        kind = chance.randrange(7)
        if kind == 0 and rows:
            rows.pop(chance.randrange(len(rows)))
        elif kind == 1 and rows:
            at = chance.randrange(len(rows))
            first, second, reason = rows[at]
            rows[at] = chance.choice([(second, first, reason), (first, first, reason), (first, second, ("seen", at))])
        elif kind == 2 and rows:
            rows.append(rows.pop(0))
        elif kind == 3 and traces:
            traces.pop() if chance.random() < 0.5 else traces.append(traces[0])
        elif kind == 4 and any(traces):
            trace = chance.choice([trace for trace in traces if trace])
            trace[chance.randrange(len(trace))] = chance.choice(trace)[::chance.choice([1, -1])]
        elif kind == 5 and len(claim) == 3:
            claim = (claim[0], claim[1], claim[2][:1])
            traces[1] = []
        elif facts:
            facts.pop(chance.randrange(len(facts)))
        return facts, claim, rows, traces

    def test_claims_about_drawings(self):
        changes = {"cut": Change([MID], [LOW]), "same": Change(), "bad": Change.nowhere()}
        binder = Binder({"main": Sheet([MID]), "q": Sheet([LOW])}, changes, [("goes", ("main", "+cut"))])
        for fact in [("fails", ("main", "-cut")), ("goes", ("q", "+bad")), ("alike", ("main",), ("q",)),
                     ("apart", ("main", "+same"), ("main", "+cut", "+same")), ("alike", ("main", "+cut"), ("main",)),
                     ("goes", ("main", "+cut", "+same", "+cut"))]:
            if judge(binder, fact) != "open":
                for paper in papers(binder, fact):
                    self.assertIsNone(paper_flaw(paper))
                self.assertTrue(contradicts(binder, paper))
        told = papers(binder, ("alike", ("main",), ("q",)))
        self.assertEqual((len(told), told[0].facts), (1, [("goes", ("main", "+cut")), ("alike", ("main",), ("q",))]))

    def test_errors(self):
        binder = Binder({"main": Sheet([MID])}, {"a": Change()}, [])
        for fact, error in [((), (BadFact, {"at": 0})), (("goes", MAIN, MAIN), (BadFact, {"at": 0})),
                            (("alike", ("main", "+z"), Q), (UnknownStart, {"name": "q"})),
                            (("goes", ("main", "+z")), (UnknownChange, {"name": "z"})),
                            (("goes", A), (NotForced, {})), (("fails", A), (NotForced, {}))]:
            self.assertEqual(raised(papers, binder, fact), error)

    def test_long_runs_and_many_facts(self):
        steps = ("+a", "+b") * 30
        facts = [("alike", ("main",) + steps[:2 * at + 2], ("main",) + steps[:2 * at]) for at in range(30)]
        binder = Binder({"main": Sheet([MID])}, {"a": Change(), "b": Change()}, facts)
        fact = ("alike", ("main",) + steps, MAIN)
        paper, = papers(binder, fact)
        self.assertEqual((paper_flaw(paper), paper.claim), (None, fact))


class Contradictions(unittest.TestCase):
    def setUp(self):
        changes = {"a": Change([MID], [LOW]), "b": Change(), "bad": Change.nowhere()}
        self.binder = Binder({"main": Sheet([MID]), "q": Sheet([MID, LOW])}, changes, [])

    def check(self, claim, facts, expected):
        self.assertIs(contradicts(self.binder, Paper(facts, claim, [], [])), expected)

    def test_facts_of_the_paper(self):
        b = ("main", "+b")
        self.check(("goes", b), [], False)
        self.check(("goes", b), [("fails", b + ("+b",)), ("goes", b), ("apart", b, b)], False)
        self.check(("goes", b), [("goes", MAIN), ("fails", b)], True)
        self.check(("alike", b, MAIN), [("apart", b, MAIN)], True)
        self.check(("alike", b, MAIN), [("apart", MAIN, b), ("alike", b, MAIN), ("fails", b)], False)

    def test_drawings(self):
        self.check(("goes", ("main", "-a")), [], True)
        self.check(("goes", ("main", "+b", "+a", "+bad")), [], True)
        self.check(("goes", ("q", "+a")), [], True)
        self.check(("goes", A), [], False)
        self.check(("alike", A, MAIN), [], True)
        self.check(("alike", A + ("-a",), MAIN), [], False)
        self.check(("alike", MAIN, Q), [], True)
        self.check(("alike", ("main", "+b"), MAIN), [], False)
        # Where a run does not go on its sheets, there are no two sheets that differ.
        self.check(("alike", ("main", "-a"), MAIN), [], False)
        self.check(("alike", MAIN, ("main", "+bad")), [], False)

    def test_it_does_not_ask_whether_the_paper_is_right(self):
        paper = Paper([], ("goes", ("main", "-a")), [(A, Q, ("seen", 7))], [[], [], []])
        self.assertIs(contradicts(self.binder, paper), True)
        self.assertEqual(paper_flaw(paper), ("row", 0))


class Copies(unittest.TestCase):
    def test_copies(self):
        facts, rows, traces = [("alike", A, QA)], [(A, QA, ("seen", 0))], [[(MAIN, A)], [(Q, QA)]]
        paper = Paper(facts, ("alike", A, QA), rows, traces)
        facts.clear(), rows.clear(), traces[0].clear(), traces.pop()
        for told in [paper.facts, paper.rows, paper.traces, paper.traces[0]]:
            told.clear()
        self.assertEqual(parts(paper), ([("alike", A, QA)], ("alike", A, QA), [(A, QA, ("seen", 0))],
                                        [[(MAIN, A)], [(Q, QA)]]))
        self.assertIsNone(paper_flaw(paper))

    def test_tuples_in_the_place_of_lists(self):
        paper = Paper((("alike", A, QA),), ("alike", A, QA), ((A, QA, ("seen", 0)),), (((MAIN, A),), ((Q, QA),)))
        self.assertEqual(parts(paper), ([("alike", A, QA)], ("alike", A, QA), [(A, QA, ("seen", 0))],
                                        [[(MAIN, A)], [(Q, QA)]]))
        self.assertIsNone(paper_flaw(paper))

    def test_it_checks_nothing(self):
        paper = Paper([("goes",)], ("goes", MAIN), [], [])
        self.assertEqual(parts(paper), ([("goes",)], ("goes", MAIN), [], []))


if __name__ == "__main__":
    unittest.main()
