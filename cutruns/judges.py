"""Whether tables are closed, and whether they show that a row can't be met."""

from cutruns.choices import least_lot
from cutruns.rules import Rules
from cutruns.tables import (
    check_table,
    is_table,
    least_table,
    stand_of_standing,
    stand_of_within,
    standing_of,
    within_of,
)


def is_closed(program, row, value):
    """Whether any value is a closed table for the row."""
    return is_table(program, row, value) and _first_lacking(program, row, value) is None


def first_lacking(program, row, table):
    """The tuple of the first thread that lacks something in the table, and what; None if the table is closed."""
    check_table(program, row, table)
    return _first_lacking(program, row, table)


def _first_lacking(program, row, table):
    for thread, withins, standings in table:
        lacking = Judge(program, thread, row, withins, standings).least_lacking()
        if lacking is not None:
            return thread, lacking
    return None


class Judge:
    """Looks whether what the rows of a table for a thread ask for is there."""

    def __init__(self, program, thread, row, withins, standings):
        self.rules = Rules(program, thread, row)
        store = self.rules.store
        self.withins = {stand_of_within(store, within): True for within in withins}
        self.standings = {stand_of_standing(store, standing): True for standing in standings}
        self.through = {}
        for stand in self.withins:
            if self.rules.is_through(stand):
                self.through.setdefault(stand[0], []).append(stand)

    def least_lacking(self):
        """The least within that lacks, or the least standing if none does, None if nothing lacks."""
        store = self.rules.store
        lacking = self._lacking(self.withins, self.rules.begin_stands())
        if len(lacking) > 0:
            return min([within_of(store, stand) for stand in lacking])
        lacking = self._lacking(self.standings, [self.rules.first_stand()])
        if len(lacking) > 0:
            return min([standing_of(store, stand) for stand in lacking])
        return None

    def _lacking(self, there, begins):
        """The stands that are asked for by those that are there, and the begins, but aren't there."""
        lacking = {stand: True for stand in begins if stand not in there}
        for stand in there:
            for later in self._asked_by(stand):
                if later not in there:
                    lacking[later] = True
        return list(lacking)

    def _asked_by(self, stand):
        asked = [later for later, _ in self.rules.following(stand)]
        for base, call in self.rules.calls(stand):
            for through in self.through.get(base, []):
                asked.extend([later for later, _ in self.rules.passed(stand, call, through)])
        return asked


def _agrees_somewhere(row, table):
    """Whether some choice of words of the table, one of each thread's runs to the last cut, agrees."""
    lists = []
    for _, _, standings in table:
        words = {word: True for phase, _, _, word in standings if phase == len(row)}
        lists.append([(0, word) for word in words])
    return least_lot(lists) is not None


def paper_apart(program, row):
    """The least table, None if the row can be met."""
    table = least_table(program, row)
    return None if _agrees_somewhere(row, table) else table


def is_apart(program, row, value):
    """Whether any value is a paper that the row can't be met."""
    return is_closed(program, row, value) and not _agrees_somewhere(row, value)
