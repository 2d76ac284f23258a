"""What a test comes to over all its inputs."""

from spoiltplaces.reasons import NONE
from spoiltplaces.running import run_test
from spoiltplaces.shapes import inputs_of


# None if the test holds; else how many inputs are ahead of the least one, that one, and why.
def least_failing(code, test):
    for ahead, handed in enumerate(inputs_of(test.shapes)):
        run = run_test(code, test, handed)
        if run.why != NONE or run.value() != 1:
            return (ahead, handed, run.why)
    return None


def holds(code, test):
    return least_failing(code, test) is None


# The positions that the test comes to. Every input is gone through, those behind the least failing one too.
def reached_by(code, test):
    reached = {}
    for handed in inputs_of(test.shapes):
        reached.update(run_test(code, test, handed).reached)
    return reached
