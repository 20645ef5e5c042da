"""What an account has by the contents that one hour knows, and what another hour knows otherwise."""

from twicetold.contents import AMOUNT, DAY, ONE, OTHER, effect


def balance_of(contents, account, day):
    """The balance of an account at a day."""
    return sum([effect(content, account, day) for content in contents])


def balances_of(contents, day):
    """Pairs of an account and its balance at a day, for all whose balance isn't nought, in the order of names."""
    pairs = [(account, balance_of(contents, account, day)) for account in accounts_of(contents)]
    return [pair for pair in pairs if pair[1] != 0]


def accounts_of(contents):
    """The accounts that the contents name, each once, in the order of names."""
    named = {}
    for content in contents:
        if content is not None:
            named[content[ONE]] = True
            named[content[OTHER]] = True
    return sorted(named)


def sheet_of(contents, account, first, last):
    """The balance ahead of the first day, the lines from the first day to the last, and the balance at the last."""
    # Days are whole numbers, so what lies ahead of the first day is what is there at the day before it.
    ahead = balance_of(contents, account, first - 1)
    return (ahead, lines_of(contents, account, first, last), balance_of(contents, account, last))


def lines_of(contents, account, first, last):
    """The lines of a sheet, in the order of days, those of one day in the order of numbers."""
    lines = []
    for number, content in enumerate(contents):
        if content is not None and first <= content[DAY] <= last:
            if account == content[ONE]:
                lines.append((content[DAY], number, content[OTHER], -content[AMOUNT]))
            elif account == content[OTHER]:
                lines.append((content[DAY], number, content[ONE], content[AMOUNT]))
    # A line begins with its day and its number, and no number comes twice.
    return sorted(lines)


def news_of(contents, later, account, day):
    """For each posting that does another amount by `later`: its number and the two amounts, in the order of numbers."""
    news = []
    for number in range(max(len(contents), len(later))):
        before = effect(content_of(contents, number), account, day)
        after = effect(content_of(later, number), account, day)
        if before != after:
            news.append((number, before, after))
    return news


def content_of(contents, number):
    """The content of a posting; None where the contents have no place for it."""
    if number < len(contents):
        return contents[number]
    return None
