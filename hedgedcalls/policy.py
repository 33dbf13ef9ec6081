"""The policy of a client: the parameters of create, their limits and the backoff bound."""

from hedgedcalls.limits import within

PARAMETER_LIMITS = (
    (1, 5),
    (0, 10000),
    (0, 100000),
    (100, 1000),
    (0, 10000),
    (0, 10),
    (1, 100000),
    (0, 100),
    (0, 1000),
    (0, 1000),
)
MOST_RETRYABLE = 16


class Policy:
    """Parameters that are within their limits, by name."""

    def __init__(self, parameters):
        self.max_attempts = parameters[0]
        self.initial_backoff = parameters[1]
        self.max_backoff = parameters[2]
        self.multiplier = parameters[3]
        self.hedge_delay = parameters[4]
        self.threshold = parameters[5]
        self.ejection_time = parameters[6]
        self.ejection_percent = parameters[7]
        self.max_tokens = parameters[8]
        self.refund = parameters[9]
        self.retryable = parameters[10:]


def parameters_allowed(parameters):
    fixed = len(PARAMETER_LIMITS)
    if not within(len(parameters), fixed, fixed + MOST_RETRYABLE):
        return False
    for limits, number in zip(PARAMETER_LIMITS, parameters):
        if not within(number, limits[0], limits[1]):
            return False
    return all([within(status, 1, 16) for status in parameters[fixed:]])


def backoff_bound(policy, retry):
    # The document rounds down once, behind all the factors, so the quotient is kept as a fraction until then.
    above = policy.initial_backoff
    below = 1
    for step in range(retry - 1):
        above = above * policy.multiplier
        below = below * 100
    return min(policy.max_backoff, above // below)


def most_tokens(policy):
    """The greatest number of tokens, in thousandths."""
    return policy.max_tokens * 1000
