"""What is asked of the numbers that are handed over."""

from fieldsheets.reading import EASES, LEAST_VALUE, LONGEST_SIDE, MOST_VALUE, MOST_ZOOM
from fieldsheets.refusals import WrongInput

MOST_STEPS = 1023


def check_between(number, least, most):
    if number < least or number > most:
        raise WrongInput()


def check_side(side):
    check_between(side, 1, LONGEST_SIDE)


def check_view(zoom, width, height):
    check_between(zoom, 1, MOST_ZOOM)
    check_side(width)
    check_side(height)


def check_steps(ease, n, i, a, b):
    check_between(ease, 0, len(EASES) - 1)
    check_between(n, 1, MOST_STEPS)
    check_between(i, 0, n)
    check_between(a, LEAST_VALUE, MOST_VALUE)
    check_between(b, LEAST_VALUE, MOST_VALUE)
