"""Answers: how likely each result is, and each way to end without results."""

from odds.counting import counts
from odds.errors import NoEvidence
from odds.ratios import ZERO, plus_all
from odds.tables import mass_at, mean, normalized, projected, table_total


def answer_of(outcomes):
    """Return the answer that the outcomes of a flat program state."""
    references = [a for _, a in outcomes.finished]
    references.extend([outcomes.rejected, outcomes.exhausted, outcomes.faulted])
    masses = counts(outcomes.store, references, outcomes.chances)
    results = [values for values, _ in outcomes.finished]
    # The last three masses stand behind those of the results.
    table = [(values, mass) for values, mass in zip(results, masses) if mass != ZERO]
    return (tuple(table), *masses[-3:])


def evidence(answer):
    """Return the mass of all results."""
    return table_total(answer[0])


def lost(answer):
    """Return the mass of all runs that end without results."""
    return plus_all(answer[1:])


def posterior(answer):
    """Return the table of the masses of the results, given that there are results."""
    if not answer[0]:
        raise NoEvidence("no results have any mass")
    return normalized(answer[0])


def marginal(answer, place):
    """Return the table of the posterior masses of one result."""
    return projected(posterior(answer), [place])


def expected(answer, place):
    """Return the posterior mean of one result."""
    return mean(posterior(answer), place)


def probability_that(answer, place, value):
    """Return the posterior mass of one value of one result."""
    return mass_at(marginal(answer, place), (value,))
