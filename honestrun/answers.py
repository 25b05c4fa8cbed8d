"""What a shield answers to an event that it does not take."""

NO_CALL = ("no call",)
TOO_MANY = ("too many",)


def refused(rule):
    """The answer to an event that breaks the rule with this number."""
    return ("refused", rule)
