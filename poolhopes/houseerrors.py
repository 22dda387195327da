"""The error of houses alone."""

from poolhopes.errors import PoolhopesError


class Unsecured(PoolhopesError):
    """A house could not be sure to pay; the scenario shows it."""

    def __init__(self, scenario):
        self.scenario = scenario
