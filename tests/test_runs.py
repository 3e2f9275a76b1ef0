"""Point 1: whole runs of two ends that are joined by two lines, with deeds drawn and lines cut anyhow."""

import random
import unittest

from oneline.ends import End
from oneline.errors import NoDeed

from joined import EndTest, picture, settled

WORDS = {
    "begin": ("away", "many", "head"),
    "answer": ("talk", "shut", "twice", "head"),
    "say": ("talk", "shut", "early", "ended"),
    "grant": ("talk", "shut", "ended", "many"),
    "reset": ("talk", "shut", "ended"),
    "ask_rank": ("talk", "shut", "ended", "many"),
    "leave": ("away",),
}


class Side:
    """An end in a run: what it said, what it heard, and what is on its way to it."""

    def __init__(self, number):
        self.end = End(number)
        self.line = []
        self.said = {}
        self.heads = {}
        self.heard = {}
        self.heads_heard = {}
        self.talks = {0}
        self.lost = set()
        self.events = []


class Run:
    """A run of two ends; odds tell how often which deed is drawn."""

    def __init__(self, seed, odds, test):
        self.drawn = random.Random(seed)
        self.odds = odds
        self.test = test
        self.sides = [Side(0), Side(1)]

    def head(self):
        drawn = self.drawn
        many = drawn.choice((0, 1, 1, 2, 3, 6, 7)) if drawn.random() < 0.1 else drawn.randrange(4)
        return [(drawn.choice(("n", "m", "name", "eightsig")), drawn.choice("abc") * drawn.choice((0, 1, 2, 20)))
                for _ in range(many)]

    def talk(self, side):
        if self.drawn.random() < 0.05:
            return self.drawn.randrange(-1, 253)
        return self.drawn.choice(sorted(side.talks))

    def values(self, side, deed):
        drawn = self.drawn
        last = drawn.random() < 0.15
        if deed == "begin":
            return self.head(), last
        if deed == "answer":
            return self.talk(side), self.head(), last
        if deed == "say":
            numbers = [drawn.randrange(256) for _ in range(drawn.choice((0, 1, 3, 10, 25)))]
            return self.talk(side), numbers, last
        if deed == "grant":
            return self.talk(side), drawn.choice((0, 1, 2, 7, 30, 300, 9940, 9980, 10000, 10001))
        if deed == "reset":
            return self.talk(side), drawn.randrange(256)
        if deed == "ask_rank":
            return self.talk(side), drawn.randrange(-1, 9)
        return ()

    def do(self, at):
        """Draws a deed for a side and does it; a refused one changes nothing."""
        side = self.sides[at]
        deed = self.drawn.choice(self.odds)
        values = self.values(side, deed)
        before = picture(side.end) if self.drawn.random() < 0.02 else None
        try:
            given = getattr(side.end, deed)(*values)
        except NoDeed as refusal:
            self.test.assertIn(refusal.why, WORDS[deed])
            if before:
                self.test.assertEqual(picture(side.end), before)
            return
        if deed == "begin":
            side.talks.add(given)
            side.heads[given] = values[0]
        elif deed == "answer":
            side.heads[values[0]] = values[1]
        elif deed == "say":
            side.said.setdefault(values[0], []).extend(values[1])
        elif deed == "reset":
            side.lost.add(values[0])

    def send(self, at):
        self.sides[1 - at].line.extend(self.sides[at].end.next_frame())

    def hear(self, at):
        side = self.sides[at]
        many = self.drawn.choice((1, 2, 5, 20, 500))
        piece, side.line = side.line[:many], side.line[many:]
        self.note(side, side.end.hear(piece))

    def note(self, side, happened):
        for event in happened:
            self.test.assertNotEqual(event[0], "broken")
            side.events.append(event)
            if event[0] in ("begun", "answer"):
                side.talks.add(event[1])
                self.test.assertNotIn(event[1], side.heads_heard)
                side.heads_heard[event[1]] = event[2]
            elif event[0] == "body":
                self.test.assertTrue(1 <= len(event[2]) <= 10)
                side.heard.setdefault(event[1], []).extend(event[2])
            elif event[0] == "reset":
                side.lost.add(event[1])

    def step(self):
        at = self.drawn.randrange(2)
        self.drawn.choice((self.do, self.send, self.hear))(at)

    def rest(self):
        """Carries all that may go, until nothing more does."""
        moved = True
        while moved:
            moved = False
            for at in (0, 1):
                numbers = self.sides[at].end.next_frame()
                moved = moved or bool(numbers) or bool(self.sides[at].line)
                self.sides[1 - at].line.extend(numbers)
                self.hear(at)

    def check(self):
        """Neither end is broken, and each has heard the beginning of what was said, at most."""
        for at in (0, 1):
            said, heard = self.sides[at], self.sides[1 - at]
            self.test.assertEqual(said.end.broken, "")
            for talk, numbers in heard.heard.items():
                self.test.assertEqual(numbers, said.said[talk][:len(numbers)])
            for talk, head in heard.heads_heard.items():
                self.test.assertEqual(head, said.heads[talk])

    def check_rest(self):
        """Shelves are in step; all was heard of talks that no one shut, as far as the credit goes."""
        for at in (0, 1):
            said, heard = self.sides[at], self.sides[1 - at]
            self.test.assertEqual(said.end.told.pairs, heard.end.heard.pairs)
            for talk, numbers in said.said.items():
                if not self.is_shut(talk):
                    many = len(numbers) - said.end.waiting(talk)
                    self.test.assertEqual(heard.heard.get(talk, []), numbers[:many])
                    if said.end.waiting(talk):
                        self.test.assertEqual(min(said.end.left(talk), said.end.left(0)), 0)

    def is_shut(self, talk):
        for side in self.sides:
            if talk in side.lost or talk not in side.talks:
                return True
            try:
                side.end.grant(talk, 0)
            except NoDeed as refusal:
                if refusal.why == "shut":
                    return True
        return False


class DrawnRunsTest(EndTest):
    FULL = ["begin"] * 4 + ["answer"] * 6 + ["say"] * 10 + ["grant"] * 6 + ["reset"] * 2 + ["ask_rank"] * 2
    MIXES = {
        "all": FULL * 2 + ["leave"],
        "much is said": FULL + ["say"] * 20 + ["grant"] * 5,
        "many resets": FULL + ["reset"] * 10,
        "no resets": [deed for deed in FULL if deed != "reset"],
        "many talks": FULL + ["begin"] * 30,
        "leaving": FULL + ["leave"],
    }

    def test_drawn_deeds(self):
        for name, odds in self.MIXES.items():
            for seed in range(25):
                with self.subTest(mix=name, seed=seed):
                    run = Run(seed, odds, self)
                    for _ in range(700):
                        run.step()
                    run.check()
                    run.rest()
                    run.check()
                    run.check_rest()

    def test_with_enough_credit_all_is_heard(self):
        for seed in range(25):
            with self.subTest(seed=seed):
                run = Run(seed, self.MIXES["no resets"], self)
                for _ in range(600):
                    run.step()
                self.give_enough(run)
                for at in (0, 1):
                    said, heard = run.sides[at], run.sides[1 - at]
                    for talk, numbers in said.said.items():
                        self.assertEqual(heard.heard.get(talk, []), numbers)
                        self.assertEqual(said.end.waiting(talk), 0)
                    self.assertEqual(heard.heads_heard, said.heads)

    def give_enough(self, run):
        for _ in range(30):
            run.rest()
            for side in run.sides:
                for talk in sorted(side.talks):
                    try:
                        side.end.grant(talk, 400)
                    except NoDeed:
                        pass

    def test_the_same_numbers_in_other_pieces_tell_the_same(self):
        for seed in range(20):
            run = Run(seed, self.MIXES["all"], self)
            one, other = run.sides
            whole = []
            for _ in range(400):
                run.do(0)
                numbers = one.end.next_frame()
                whole.extend(numbers)
                other.end.hear(numbers)
            told = []
            for pieces in (1, 2, 7, 100, len(whole)):
                end = End(1)
                happened = []
                for at in range(0, len(whole), pieces):
                    happened.extend(end.hear(whole[at:at + pieces]))
                told.append((happened, picture(end)))
            for later in told[1:]:
                self.assertEqual(later, told[0])

    def test_numbers_that_are_drawn(self):
        drawn = random.Random(3)
        for _ in range(300):
            whole = [drawn.choice((0, 0, 1, 1, 2, 3, 4, 5, 6, 7, 255)) for _ in range(200)]
            told = []
            for pieces in (1, 3, 200):
                end = End(1)
                end.begin([], False)
                happened = []
                for at in range(0, len(whole), pieces):
                    happened.extend(end.hear(whole[at:at + pieces]))
                told.append((happened, picture(end)))
            self.assertEqual(told[0], told[1])
            self.assertEqual(told[0], told[2])
            broken = [event for event in told[0][0] if event[0] == "broken"]
            self.assertEqual(broken, [("broken", end.broken)] if end.broken else [])
            self.assertEqual(broken, told[0][0][len(told[0][0]) - len(broken):])


class CreditTest(EndTest):

    def test_never_more_is_heard_than_was_given(self):
        for seed in range(20):
            run = Run(seed, DrawnRunsTest.MIXES["much is said"], self)
            given = [{0: 60}, {0: 60}]
            used = [{0: 0}, {0: 0}]
            seen = [0, 0]
            for at in (0, 1):
                self.watch(run.sides[at].end, given[at])
            for _ in range(800):
                run.step()
                for at in (0, 1):
                    events = run.sides[at].events
                    for event in events[seen[at]:]:
                        if event[0] == "body":
                            for talk in (0, event[1]):
                                used[at][talk] = used[at].get(talk, 0) + len(event[2])
                                self.assertLessEqual(used[at][talk], given[at].get(talk, 20))
                    seen[at] = len(events)

    def watch(self, end, given):
        grant = end.grant

        def watched(number, many):
            grant(number, many)
            given[number] = given.get(number, 20) + many

        end.grant = watched


if __name__ == "__main__":
    unittest.main()
