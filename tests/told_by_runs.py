"""What runs tell of the facts of a function [0.19]."""

from itertools import combinations

from restwise.run.runs import all_runs

END = ("end",)


def pair_of(asked, at, outcome):
    """The pair of the ask with this index among the asks of a run to an outcome."""
    label, behind = asked[at], set(asked[at + 1:])
    need = {other: "on" for other in asked if other != label}
    need.update({other: "back" for other in behind})
    return (label, tuple(sorted(need.items())), outcome)


def facts_to(asked, outcome):
    """The way and the pairs of a run that comes to the outcome behind these asks."""
    found = {(tuple(sorted(set(asked))), outcome)}
    for at in range(len(asked)):
        found.add(pair_of(asked, at, outcome))
    return found


def facts_of_run(run):
    """All facts that a run tells of its function; its asks are many, so only the first ones are taken."""
    asked = run.asked
    found = set()
    for many in range(min(len(asked), 12)):
        found |= facts_to(asked[:many], ("ask", asked[many]))
    if run.end == ("end",):
        found |= facts_to(asked, END)
    if run.end[0] == "stop":
        name, index = run.end[1]
        found |= facts_to(asked, run.program[name].nodes[index])
    return found


def facts_told(program, name, tests, limits):
    """All facts that runs of so many tests tell, whatever labels are given.

    Runs that are cut early are needed, too: later they have more tests.
    """
    found = set()
    for many in range(len(program.labels) + 1):
        for given in combinations(program.labels, many):
            for moves in limits:
                for run in all_runs(program, name, tests, given=given, moves=moves):
                    found |= facts_of_run(run)
    return found
