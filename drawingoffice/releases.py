"""Releases, which hand a copy of a drawing to the shop (point 61 of the document)."""

from drawingoffice.cards import card_of, sorted_when
from drawingoffice.errors import BadRun, LateFails, RunFails
from drawingoffice.forms import form_of
from drawingoffice.limits import ascending
from drawingoffice.players import sure
from drawingoffice.runs import check_runs, is_run


class Shop:
    """The releases at the contents of a store that fits the binder of an office.

    `sheets` are the sheets of the contents.
    """

    def __init__(self, office, store, sheets):
        self._steps = office.route.steps
        self._stock = office.stock
        self._store = store
        self._sheets = list(sheets)
        self._rows = office.route.late_rows()
        self._late_runs = [office.route.late_run(row) for row in self._rows]
        self._waived = {limit: True for limit in office.waived}
        # What is known of the releases with the same final sheets.
        self._is_sure = {}

    def failing_row(self, content):
        """The first late row whose run does not go from the content, or None."""
        for row, steps in zip(self._rows, self._late_runs):
            if self._end(content, steps) is None:
                return row
        return None

    def asked_rules(self, content):
        """The rules of the card of the release, as pairs of a limit and an act, if all late runs go."""
        sheets = self._final_sheets(content)
        lates = [step[1] for step in self._steps if step[0] == "late"]
        asked = []
        for limit in ascending([limit for sheet in sheets for limit in sheet if limit not in self._waived]):
            rows = [row for row, sheet in zip(self._rows, sheets) if limit in sheet]
            whens = [sorted_when(dict(zip(lates, row))) for row in rows]
            if len(rows) == len(sheets):
                whens = [()]
            asked.extend([(limit, ("rule",) + self._parts_and_form(limit) + (when,)) for when in whens])
        return asked

    def card_with(self, acts):
        """The card with the steps of the route and these rules."""
        steps = [("turn", step[1], len(step[2])) if step[0] == "late" else step for step in self._steps]
        return card_of(steps + list(acts))

    def card_at(self, content):
        """The card of the release at the content, from which all late runs go."""
        return self.card_with([act for _, act in self.asked_rules(content)])

    def is_right(self, content):
        """True if every late run goes from the content and the card is sure."""
        if self.failing_row(content) is not None:
            return False
        key = tuple([tuple(sheet) for sheet in self._final_sheets(content)])
        if key not in self._is_sure:
            self._is_sure[key] = sure(self.card_at(content))
        return self._is_sure[key]

    def _final_sheets(self, content):
        """The final sheets of the late rows, if all late runs go."""
        return [self._sheets[self._end(content, steps)] for steps in self._late_runs]

    def _end(self, content, steps):
        """The content to which the steps lead, or None."""
        for step in steps:
            content = self._store.target(content, step)
        return content

    def _parts_and_form(self, limit):
        """The two parts of the rule of a limit, and its form."""
        constant, terms = limit[-1]
        ends = {step[1]: step[2:] for step in self._steps if step[0] == "measure"}
        form = form_of(constant, [(name, times) + ends[name] for name, times in terms])
        if limit[0] == "room":
            return limit[1], limit[2], form + self._stock.length(limit[3])
        return limit[2], limit[1], form * -1


def release_card(office, run):
    """The card of the release at the content of the folded store at which the run ends."""
    if not is_run(run):
        raise BadRun(run)
    binder = office.binder
    check_runs([run], binder.drawings, binder.changes)
    content = binder.store.end(run)
    if content is None:
        raise RunFails()
    shop = Shop(office, binder.store, binder.sheets)
    row = shop.failing_row(content)
    if row is not None:
        raise LateFails(row)
    return shop.card_at(content)
