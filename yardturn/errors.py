"""The refusals of yardturn."""


# Any refusal stands under this one, so that a caller can take them all by one name.
class YardError(ValueError):
    pass


class Twice(YardError):
    pass


class NoJob(YardError):
    pass


class NoOrder(YardError):
    pass
