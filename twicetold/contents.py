"""What the content of one posting does to an account."""

# The places in a content, the tuple (day, one, other, amount).
DAY = 0
ONE = 1
OTHER = 2
AMOUNT = 3


def effect(content, account, day):
    """What a posting with this content does to an account up to a day; nought where the content is None."""
    if content is None or content[DAY] > day:
        return 0
    if account == content[ONE]:
        return -content[AMOUNT]
    if account == content[OTHER]:
        return content[AMOUNT]
    return 0
