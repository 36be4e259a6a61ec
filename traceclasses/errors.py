"""What is raised where the document names an error."""


class TraceFault(ValueError):
    """The base of all errors of the package."""


class AlphabetFault(TraceFault):
    """An alphabet that is none: reason is "letters" or "pairs"."""

    def __init__(self, reason):
        super().__init__(f"wrong {reason} in an alphabet")
        self.reason = reason


class ExchangeFault(TraceFault):
    """An exchange that is not possible: number counts the exchanges from 0."""

    def __init__(self, number):
        super().__init__(f"exchange {number} is not possible")
        self.number = number


class ScheduleFault(TraceFault):
    """A step that is not possible: number counts the steps from 0."""

    def __init__(self, number):
        super().__init__(f"step {number} of a schedule is not possible")
        self.number = number
