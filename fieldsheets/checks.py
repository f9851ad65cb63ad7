"""What is asked of the numbers that are handed over."""

from fieldsheets.reading import EASES, LEAST_VALUE, MOST_VALUE
from fieldsheets.refusals import WrongInput

MOST_STEPS = 1023


def check_between(number, least, most):
    if number < least or number > most:
        raise WrongInput()


def check_steps(ease, n, i, a, b):
    check_between(ease, 0, len(EASES) - 1)
    check_between(n, 1, MOST_STEPS)
    check_between(i, 0, n)
    check_between(a, LEAST_VALUE, MOST_VALUE)
    check_between(b, LEAST_VALUE, MOST_VALUE)
