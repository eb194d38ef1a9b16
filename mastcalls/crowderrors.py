"""The error of those who look at all standings of a crowd ([40])."""

from mastcalls.errors import CallError


class TooMany(CallError):
    """More standings than may be looked at."""

    def __init__(self, most):
        self.most = most
