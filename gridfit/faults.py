"""What ends a program before its end."""


class Fault(Exception):
    """A program's fault, by its number from 1 to 8; its place is known to the run alone."""

    def __init__(self, number):
        Exception.__init__(self, number)
        self.number = number
