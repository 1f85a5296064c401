"""The events of [10.3] that runs tell."""

from restwise.run.runs import Run, all_runs
from tests.plain_runs import PlainRun


def further_rests(run):
    """The rests that have ended and behind which the same clause comes to a further rest, by a plain run."""
    if not any(event[0] == "rest" and event[2] > 1 for event in run.row):
        return set()
    return PlainRun(run.program, run.name, run.world, run.given, run.moves).again


def events_of_run(run):
    found = {("come", place) for place in run.places}
    if run.end[0] == "stop":
        found.add(run.end)
    for event in run.row:
        if event[0] in ("ask", "ended", "behind", "drop"):
            found.add(event)
        if event[0] == "rest":
            found.add(event[:2])
    return found | {("again", rest) for rest in further_rests(run)}


def events_told(program, name, tests, moves):
    """The events of all runs of so many tests, and whether each run ends or stops within these bounds."""
    found, is_ending, share = set(), True, 0
    for run in all_runs(program, name, tests, moves=moves):
        found |= events_of_run(run)
        is_ending = is_ending and run.end != ("cut",)
        share += 2 ** (tests - run.tests)
    # The worlds of these runs are the beginnings of all worlds exactly if no run needs more tests.
    return found, is_ending and share == 2 ** tests


def random_run(chance, program, name, moves=400):
    world = tuple(chance.random() < chance.choice((0.2, 0.5, 0.8)) for _ in range(chance.randrange(40)))
    return Run(program, name, world, moves=moves)
