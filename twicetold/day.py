"""A day's deeds, done one by one, and what stands behind them."""

from twicetold.errors import Refused
from twicetold.ledger import Ledger
from twicetold.sheets import balances_of


def answers(deeds):
    """The answers of the deeds, done one by one in a new book."""
    ledger = Ledger()
    return [answer(ledger, deed) for deed in deeds]


def balances(deeds, day, hour):
    """Behind the deeds, as known at an hour: pairs of an account and its balance at a day, where it isn't nought."""
    return balances_of(ledger_behind(deeds).contents_at(hour), day)


def history(deeds, number):
    """The versions of a posting behind the deeds; the empty list where there is no such posting."""
    return ledger_behind(deeds).versions_of(number)


def ledger_behind(deeds):
    """The book behind the deeds."""
    ledger = Ledger()
    for deed in deeds:
        answer(ledger, deed)
    return ledger


def answer(ledger, deed):
    """Do a deed; its answer, or the words by which it is refused."""
    try:
        return carry_out(ledger, deed)
    except Refused as refusal:
        return refusal.words


def carry_out(ledger, deed):
    """Do a deed; its answer."""
    name = deed[0]
    if name == "move":
        return ledger.move(deed[1], deed[2], deed[3], deed[4])
    if name == "right":
        return ledger.put_right(deed[1], deed[2], deed[3], deed[4], deed[5])
    if name == "strike":
        return ledger.strike(deed[1])
    if name == "close":
        return ledger.close_days(deed[1])
    if name == "balance":
        return ledger.balance(deed[1], deed[2], deed[3])
    if name == "sheet":
        return ledger.sheet(deed[1], deed[2], deed[3], deed[4])
    return ledger.news(deed[1], deed[2], deed[3], deed[4])
