"""What the document promises over the whole program, over drawn days of deeds.

The draws are the same in each run: each day of deeds comes from its own seed.
"""

import copy
import itertools
import random
import unittest

from twicetold.contents import effect
from twicetold.day import answers, balances, history
from twicetold.sheets import news_of, sheet_of
from twicetold.versions import known

HUGE = 10 ** 110 - 1
NAMES = ("", "a", "B", "b", "bank")
SEEDS = range(60)
SMALL_DAYS = tuple(range(-4, 5))
LARGE_DAYS = tuple(sign * HUGE + step for sign in (-1, 1) for step in (-1, 0, 1)) + (-1, 0, 1)
CHANGES = ("move", "right", "strike", "close")


class Draw:
    """One drawn day of deeds: mostly such as are done, some such as are refused."""

    def __init__(self, seed, length=40):
        self.random = random.Random(seed)
        self.days = LARGE_DAYS if seed % 5 == 4 else SMALL_DAYS
        self.large = seed % 5 == 4
        self.moves = 0
        self.deeds = [self.deed() for turn in range(length)]

    def day(self):
        return self.random.choice(self.days)

    def number(self):
        return self.random.randint(0, max(0, self.moves - 1)) if self.random.random() < 0.9 else \
            self.random.choice((-1, -2, self.moves, self.moves + 1))

    def content(self):
        one, other = self.random.sample(NAMES, 2)
        amount = self.random.randint(1, 4) * (HUGE if self.large else 1)
        chance = self.random.random()
        if chance < 0.05:
            other = one
        if 0.03 < chance < 0.08:
            amount = -self.random.randint(0, 2)
        return (self.day(), one, other, amount)

    def hour(self):
        return self.random.randint(-1, self.moves * 2 + 1)

    def deed(self):
        kind = self.random.choice(("move",) * 7 + ("right",) * 6 + ("strike",) * 2 + ("balance", "sheet", "news"))
        if self.random.random() < 0.04:
            # Late days are closed seldom, so that something is left to be done.
            return ("close", min(self.day(), self.day(), self.day()))
        if kind == "move":
            self.moves += 1
            return (kind,) + self.content()
        if kind == "right":
            return (kind, self.number()) + self.content()
        if kind == "strike":
            return (kind, self.number())
        name = self.random.choice(NAMES)
        if kind == "balance":
            return (kind, name, self.day(), self.hour())
        if kind == "sheet":
            return (kind, name) + tuple(sorted((self.day(), self.day()), reverse=self.random.random() < 0.2)) + (
                self.hour(),)
        return (kind, name, self.day(), self.hour(), self.hour())


class Model:
    """The book by the plainest means: after each change the whole of what is known is written down anew."""

    def __init__(self):
        self.pages = [[]]
        self.closings = []

    def refusal(self, deed):
        page, kind = self.pages[-1], deed[0]
        holds = []
        if kind in ("right", "strike"):
            told = deed[1] in range(len(page))
            holds += [("no posting", not told), ("struck", told and page[deed[1]] == "struck")]
        if kind in ("move", "right"):
            holds += [("same account", deed[-3] == deed[-2]), ("no amount", deed[-1] < 1)]
        holds.append(("closed", any(day <= last for day in self.touched(deed) for last in self.closings)))
        if kind == "sheet":
            holds.append(("no days", deed[2] > deed[3]))
        hours = {"balance": deed[3:4], "sheet": deed[4:5], "news": deed[3:5]}.get(kind, ())
        holds.append(("not yet", any(hour not in range(len(self.pages)) for hour in hours)))
        return next((words for words, held in holds if held), None)

    def touched(self, deed):
        """The days that a deed touches, its posting's own one among them."""
        page, kind = self.pages[-1], deed[0]
        days = []
        if kind in ("move", "right"):
            days.append(deed[-4])
        if kind in ("right", "strike") and deed[1] in range(len(page)) and page[deed[1]] != "struck":
            days.append(page[deed[1]][0])
        if kind == "close":
            days.append(deed[1])
        return days

    def answer(self, deed):
        words = self.refusal(deed)
        if words:
            return words
        if deed[0] in CHANGES:
            return self.change(deed)
        if deed[0] == "balance":
            return self.balance(*deed[1:])
        if deed[0] == "sheet":
            return self.sheet(*deed[1:])
        return self.news(*deed[1:])

    def change(self, deed):
        page = list(self.pages[-1])
        if deed[0] == "move":
            page.append(deed[1:])
        elif deed[0] == "right":
            page[deed[1]] = deed[2:]
        elif deed[0] == "strike":
            page[deed[1]] = "struck"
        else:
            self.closings.append(deed[1])
        self.pages.append(page)
        return len(page) - 1 if deed[0] == "move" else len(self.pages) - 1

    def amounts(self, account, hour, first, last):
        """By number, what the postings known at the hour on the days from first to last do to the account."""
        found = {}
        for number, content in enumerate(self.pages[hour]):
            if content != "struck" and account in content[1:3] and first <= content[0] <= last:
                found[number] = content[3] if content[2] == account else -content[3]
        return found

    def balance(self, account, day, hour):
        return sum(self.amounts(account, hour, -HUGE * 9, day).values())

    def sheet(self, account, first, last, hour):
        lines = []
        for number, amount in self.amounts(account, hour, first, last).items():
            day, one, other, whole = self.pages[hour][number]
            lines.append((day, number, one if other == account else other, amount))
        lines.sort(key=lambda line: (line[0], line[1]))
        ahead = sum(self.amounts(account, hour, -HUGE * 9, first - 1).values())
        return (ahead, lines, self.balance(account, last, hour))

    def news(self, account, day, hour, later):
        before = self.amounts(account, hour, -HUGE * 9, day)
        after = self.amounts(account, later, -HUGE * 9, day)
        return [(number, before.get(number, 0), after.get(number, 0)) for number in sorted(set(before) | set(after))
                if before.get(number, 0) != after.get(number, 0)]

    def contents(self, hour):
        return [None if content == "struck" else content for content in self.pages[hour]]


def model_behind(deeds):
    model = Model()
    for deed in deeds:
        model.answer(deed)
    return model


def histories_behind(deeds):
    """The program's own histories of all postings."""
    found = []
    while history(deeds, len(found)):
        found.append(history(deeds, len(found)))
    return found


def contents_at(histories, hour):
    return [known(versions, hour) for versions in histories]


def numbered_up_to(contents, last):
    """The contents of the days up to the last, each with its number."""
    return [pair for pair in enumerate(contents) if pair[1] is not None and pair[1][0] <= last]


def asked(deeds, *questions):
    """The answers of questions that are asked behind the deeds."""
    return answers(deeds + list(questions))[len(deeds):]


def balance_in(pairs, account):
    return dict(pairs).get(account, 0)


def over_drawn_days(check):
    """A test that checks each drawn day."""
    def test(self):
        for seed in SEEDS:
            with self.subTest(seed=seed):
                check(self, Draw(seed))
    return test


class DrawnDaysTest(unittest.TestCase):
    def test_the_draws_reach_every_answer(self):
        seen = {}
        for seed in SEEDS:
            deeds = Draw(seed).deeds
            for deed, answer in zip(deeds, answers(deeds)):
                words = answer if isinstance(answer, str) else "done"
                seen[deed[0], words] = seen.get((deed[0], words), 0) + 1
        for kind in CHANGES + ("balance", "sheet", "news"):
            self.assertGreater(seen.get((kind, "done"), 0), 40, kind)
        for words in ("no posting", "struck", "same account", "no amount", "closed", "no days", "not yet"):
            self.assertGreater(sum(count for key, count in seen.items() if key[1] == words), 10, words)

    @over_drawn_days
    def test_each_deed_is_answered_as_by_the_plainest_book(self, draw):
        model = Model()
        self.assertEqual(answers(draw.deeds), [model.answer(deed) for deed in draw.deeds])

    def test_two_hundred_deeds_are_answered_as_by_the_plainest_book(self):
        for seed in range(5):
            deeds = Draw(1000 + seed, 200).deeds
            model = Model()
            with self.subTest(seed=seed):
                self.assertEqual(answers(deeds), [model.answer(deed) for deed in deeds])

    @over_drawn_days
    def test_histories_tell_the_plainest_book_at_each_hour(self, draw):
        model = model_behind(draw.deeds)
        histories = histories_behind(draw.deeds)
        for hour in range(len(model.pages)):
            found = contents_at(histories, hour)
            told = model.contents(hour)
            self.assertEqual(found, told + [None] * (len(found) - len(told)))

    @over_drawn_days
    def test_the_hours_of_histories_rise_and_each_is_told_once(self, draw):
        model = model_behind(draw.deeds)
        hours = []
        for number in range(len(model.pages[-1])):
            own = [hour for hour, content in history(draw.deeds, number)]
            self.assertEqual(own, sorted(set(own)))
            hours += own
        self.assertEqual(len(hours), len(set(hours)))
        self.assertEqual(len(hours) + len(model.closings), len(model.pages) - 1)

    @over_drawn_days
    def test_what_is_handed_in_stays_as_it_was(self, draw):
        before = copy.deepcopy(draw.deeds)
        answers(draw.deeds)
        balances(draw.deeds, 0, 0)
        history(draw.deeds, 0)
        self.assertEqual(draw.deeds, before)

    @over_drawn_days
    def test_the_same_deeds_are_answered_the_same_again(self, draw):
        self.assertEqual(answers(draw.deeds), answers(copy.deepcopy(draw.deeds)))

    @over_drawn_days
    def test_a_beginning_of_the_deeds_is_answered_the_same(self, draw):
        whole = answers(draw.deeds)
        for count in range(0, len(whole), 7):
            self.assertEqual(answers(draw.deeds[:count]), whole[:count])

    @over_drawn_days
    def test_all_balances_together_are_nought(self, draw):
        for hour in range(len(model_behind(draw.deeds).pages)):
            for day in draw.days:
                pairs = balances(draw.deeds, day, hour)
                self.assertEqual(sum(balance for name, balance in pairs), 0)
                self.assertNotIn(0, [balance for name, balance in pairs])
                self.assertEqual([name for name, balance in pairs], sorted({name for name, balance in pairs}))

    @over_drawn_days
    def test_balances_are_those_of_the_single_accounts(self, draw):
        histories = histories_behind(draw.deeds)
        for hour in range(len(model_behind(draw.deeds).pages)):
            day = draw.day()
            pairs = balances(draw.deeds, day, hour)
            found = asked(draw.deeds, *[("balance", name, day, hour) for name in NAMES])
            self.assertEqual([balance_in(pairs, name) for name in NAMES], found)
            contents = contents_at(histories, hour)
            self.assertEqual(found, [sum(effect(content, name, day) for content in contents) for name in NAMES])

    @over_drawn_days
    def test_a_sheet_adds_up_and_the_next_one_begins_with_its_end(self, draw):
        histories = histories_behind(draw.deeds)
        for hour in range(len(model_behind(draw.deeds).pages)):
            first, last = sorted((draw.day(), draw.day()))
            name = draw.random.choice(NAMES)
            sheet, behind, whole, ahead_of_it, at_last = asked(
                draw.deeds, ("sheet", name, first, last, hour), ("sheet", name, last + 1, last + 3, hour),
                ("sheet", name, first, last + 3, hour), ("balance", name, first - 1, hour),
                ("balance", name, last, hour))
            self.assertEqual(sheet[0] + sum(line[3] for line in sheet[1]), sheet[2])
            self.assertEqual(behind[0], sheet[2])
            self.assertEqual(whole, (sheet[0], sheet[1] + behind[1], behind[2]))
            self.assertEqual((sheet[0], sheet[2]), (ahead_of_it, at_last))
            self.assertEqual(sheet, sheet_of(contents_at(histories, hour), name, first, last))

    @over_drawn_days
    def test_news_lead_from_one_balance_to_the_other(self, draw):
        last_hour = len(model_behind(draw.deeds).pages) - 1
        histories = histories_behind(draw.deeds)
        for turn in range(20):
            hour, later = draw.random.randint(0, last_hour), draw.random.randint(0, last_hour)
            name, day = draw.random.choice(NAMES), draw.day()
            news, back, before, after = asked(
                draw.deeds, ("news", name, day, hour, later), ("news", name, day, later, hour),
                ("balance", name, day, hour), ("balance", name, day, later))
            self.assertEqual(before + sum(entry[2] for entry in news) - sum(entry[1] for entry in news), after)
            self.assertEqual(back, [(number, second, first) for number, first, second in news])
            self.assertEqual(news, news_of(contents_at(histories, hour), contents_at(histories, later), name, day))

    @over_drawn_days
    def test_what_is_known_of_closed_days_stays_the_same(self, draw):
        hour, closed = 0, {}
        for deed, answer in zip(draw.deeds, answers(draw.deeds)):
            if deed[0] in CHANGES and not isinstance(answer, str):
                hour += 1
                if deed[0] == "close":
                    closed[hour] = deed[1]
        histories = histories_behind(draw.deeds)
        for since, last in closed.items():
            for later in range(since, hour + 1):
                self.assert_same_up_to(draw.deeds, last, since, later)
                self.assertEqual(numbered_up_to(contents_at(histories, since), last),
                                 numbered_up_to(contents_at(histories, later), last))

    def assert_same_up_to(self, deeds, last, since, later):
        for name in NAMES:
            sheets = asked(deeds, ("sheet", name, -HUGE * 9, last, since), ("sheet", name, -HUGE * 9, last, later))
            self.assertEqual(sheets[0], sheets[1])
            for day in (last, last - 1):
                self.assertEqual(asked(deeds, ("news", name, day, since, later)), [[]])
        self.assertEqual(balances(deeds, last, since), balances(deeds, last, later))

    @over_drawn_days
    def test_earlier_hours_know_what_they_knew(self, draw):
        for count in range(0, len(draw.deeds), 5):
            earlier = draw.deeds[:count]
            for hour in range(len(model_behind(earlier).pages)):
                day, name = draw.day(), draw.random.choice(NAMES)
                questions = [("balance", name, day, hour), ("sheet", name, day, day + 3, hour),
                             ("news", name, day, hour, 0)]
                self.assertEqual(asked(earlier, *questions), asked(draw.deeds, *questions))
                self.assertEqual(balances(earlier, day, hour), balances(draw.deeds, day, hour))
            for number in range(len(model_behind(earlier).pages[-1])):
                versions = history(earlier, number)
                self.assertEqual(versions, history(draw.deeds, number)[:len(versions)])

    @over_drawn_days
    def test_deeds_that_ask_or_are_refused_change_nothing(self, draw):
        done = [(deed, answer) for deed, answer in zip(draw.deeds, answers(draw.deeds))
                if deed[0] in CHANGES and not isinstance(answer, str)]
        alone = [deed for deed, answer in done]
        self.assertEqual(answers(alone), [answer for deed, answer in done])
        for number in range(-1, len(alone)):
            self.assertEqual(history(alone, number), history(draw.deeds, number))
        for day in draw.days:
            self.assertEqual(balances(alone, day, len(alone)), balances(draw.deeds, day, len(alone)))


def told_in_some_order(chance, contents):
    """Deeds that end with these contents standing: told in any order, some wrongly first, some others struck."""
    waiting = [[("move",) + content] for content in contents]
    for steps in waiting:
        wrong = [("move", chance.randint(-4, 4)) + tuple(chance.sample(NAMES, 2)) + (chance.randint(1, 9),)
                 for turn in range(chance.choice((0, 0, 1, 2)))]
        steps[:0] = wrong
    waiting += [[("move", chance.randint(-4, 4), "a", "b", chance.randint(1, 9)), "strike"] for turn in
                range(chance.randint(0, 3))]
    numbers, deeds = {}, []
    while any(waiting):
        place = chance.choice([place for place, steps in enumerate(waiting) if steps])
        step = waiting[place].pop(0)
        if step == "strike":
            deeds.append(("strike", numbers[place]))
        elif place in numbers:
            deeds.append(("right", numbers[place]) + step[1:])
        else:
            numbers[place] = len(numbers)
            deeds.append(step)
    return deeds


class OrderTest(unittest.TestCase):
    def test_in_whatever_order_the_balances_are_those_of_what_stands(self):
        for seed in range(40):
            chance = random.Random(seed)
            contents = [(chance.randint(-4, 4),) + tuple(chance.sample(NAMES, 2)) + (chance.randint(1, 9),)
                        for turn in range(chance.randint(0, 8))]
            for turn in range(4):
                deeds = told_in_some_order(chance, contents)
                for day in SMALL_DAYS:
                    sums = [(name, sum(effect(content, name, day) for content in contents)) for name in sorted(NAMES)]
                    with self.subTest(seed=seed, deeds=deeds, day=day):
                        self.assertEqual(balances(deeds, day, len(deeds)), [pair for pair in sums if pair[1] != 0])

    def test_every_order_of_four_moves(self):
        moves = [("move", 5, "a", "b", 1), ("move", -5, "b", "c", 10), ("move", 0, "c", "a", 100),
                 ("move", 5, "", "a", 1000)]
        for order in itertools.permutations(moves):
            with self.subTest(order=order):
                self.assertEqual(balances(list(order), 5, 4), [("", -1000), ("a", 1099), ("b", -9), ("c", -90)])
                self.assertEqual(balances(list(order), 4, 4), [("a", 100), ("b", -10), ("c", -90)])


if __name__ == "__main__":
    unittest.main()
