"""What a plain script does at all places: on each of its kinds, and on a single line."""

from scriptsknown.runs import line_run

FINAL_LINE = 24


class Outcome:
    """A kind at a place, and what a script did on it there."""

    def __init__(self, place, kind, run):
        self.place = place
        self.kind = kind
        self.run = run


def all_places():
    """The places in order; the line with the greatest number is always the last."""
    places = []
    for number in range(1, FINAL_LINE):
        places.append((number, 0))
        places.append((number, 1))
    places.append((FINAL_LINE, 1))
    return places


def all_outcomes(commands, kinds):
    """What is done on each kind at each place; by places, then by kinds."""
    outcomes = []
    for place in all_places():
        for kind in kinds:
            outcomes.append(Outcome(place, kind, line_run(commands, kind, place)))
    return outcomes


def where_done(outcomes, number):
    """Those of the outcomes in which the command with this number was done."""
    return [outcome for outcome in outcomes if number in outcome.run.done]


def first_unlike(outcomes, others):
    """The first outcome in place of which other commands make something else come, or None."""
    for outcome in outcomes:
        run = line_run(others, outcome.kind, outcome.place)
        if run.coming() != outcome.run.coming():
            return outcome
    return None


def numbers_of(outcomes):
    """The numbers of the lines at these outcomes' places, each once, in order."""
    return sorted(set([outcome.place[0] for outcome in outcomes]))


def first_unsafe(commands, line):
    """The first place at which this line is deleted or changed, or None."""
    for place in all_places():
        run = line_run(commands, line, place)
        if run.deleted or run.line != line:
            return place
    return None
