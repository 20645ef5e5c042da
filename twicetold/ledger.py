"""The book: what was told of each posting and at which hour, and which days are closed."""

from twicetold.contents import DAY
from twicetold.errors import Closed, NoAmount, NoDays, NoPosting, NotYet, SameAccount, Struck
from twicetold.sheets import balance_of, news_of, sheet_of
from twicetold.versions import known


def check_sides(one, other, amount):
    """Refuse a posting whose accounts are the same or whose amount is below one."""
    if one == other:
        raise SameAccount()
    if amount < 1:
        raise NoAmount()


class Ledger:
    """A book. Each deed checks all that may refuse it before it changes anything."""

    def __init__(self):
        self.hour = 0
        # The versions of each posting, in the order of the postings' numbers.
        self.histories = []
        # The last day that is closed; None as long as no day is.
        self.closed_day = None

    def move(self, day, one, other, amount):
        """Tell a posting; its number."""
        check_sides(one, other, amount)
        self.check_free(day)
        self.hour += 1
        self.histories.append([(self.hour, (day, one, other, amount))])
        return len(self.histories) - 1

    def put_right(self, number, day, one, other, amount):
        """Put a posting right to another content; the hour that it is then."""
        standing = self.standing_content(number)
        check_sides(one, other, amount)
        self.check_free(standing[DAY])
        self.check_free(day)
        return self.tell_version(number, (day, one, other, amount))

    def strike(self, number):
        """Strike a posting; the hour that it is then."""
        standing = self.standing_content(number)
        self.check_free(standing[DAY])
        return self.tell_version(number, None)

    def close_days(self, day):
        """Close all days up to this one; the hour that it is then."""
        self.check_free(day)
        self.closed_day = day
        self.hour += 1
        return self.hour

    def balance(self, account, day, hour):
        """The balance of an account at a day, as known at an hour."""
        self.check_hour(hour)
        return balance_of(self.contents_at(hour), account, day)

    def sheet(self, account, first, last, hour):
        """The sheet of an account from a first day to a last one, as known at an hour."""
        if first > last:
            raise NoDays()
        self.check_hour(hour)
        return sheet_of(self.contents_at(hour), account, first, last)

    def news(self, account, day, hour, later):
        """The news of an account up to a day, from an hour to another one."""
        self.check_hour(hour)
        self.check_hour(later)
        return news_of(self.contents_at(hour), self.contents_at(later), account, day)

    def contents_at(self, hour):
        """What is known of each posting at an hour, in the order of numbers."""
        return [known(versions, hour) for versions in self.histories]

    def versions_of(self, number):
        """The versions of a posting; the empty list where there is no such posting."""
        if self.has_posting(number):
            return list(self.histories[number])
        return []

    def has_posting(self, number):
        """Whether a posting with this number was told."""
        return 0 <= number < len(self.histories)

    def standing_content(self, number):
        """The content that a posting is known with now; refused where it was not told or is struck."""
        if not self.has_posting(number):
            raise NoPosting()
        content = known(self.histories[number], self.hour)
        if content is None:
            raise Struck()
        return content

    def tell_version(self, number, content):
        """Let a posting be known with this content from a new hour on; that hour."""
        self.hour += 1
        self.histories[number].append((self.hour, content))
        return self.hour

    def check_free(self, day):
        """Refuse a closed day."""
        if self.closed_day is not None and day <= self.closed_day:
            raise Closed()

    def check_hour(self, hour):
        """Refuse an hour that the book has not reached, or none at all."""
        if hour < 0 or hour > self.hour:
            raise NotYet()
