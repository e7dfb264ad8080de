"""Whatever is cut and wherever: what is read behind a mending is what some first transactions made, the flushed among them."""

import random
import unittest

from tests.lines import Case, COMMIT, FLUSH, MEND, SETTLE, ZEROS, block, commit, cut, cut_in, flush, make, mend, read
from tests.lines import run, settle


class Story:
    """Calls made up by a seed, and what has to be read behind them."""

    def __init__(self, seed):
        self.random = random.Random(seed)
        self.j = self.random.randint(4, 12)
        self.h = self.random.randint(max(1, 6 - self.j), 6)
        self.calls = [make(self.j + 2 + self.h, self.j)]
        # What the homes read as behind each transaction that may be lost; the first of these can't be.
        self.states = [[ZEROS] * self.h]

    def transaction(self):
        count = self.random.randint(1, min(self.h, self.j - 1))
        homes = self.random.sample(range(self.h), count)
        return homes, [block(self.random.randint(0, 250)) for home in homes]

    def remember(self, homes, blocks):
        state = list(self.states[-1])
        for home, new in zip(homes, blocks):
            state[home] = new
        self.states.append(state)

    def row(self):
        return [self.random.randint(0, 12 * 1024) for _ in range(self.random.choice([0, 3, 10, 40]))]

    def step(self):
        kind = self.random.choice([COMMIT] * 5 + [FLUSH, SETTLE])
        if kind == COMMIT:
            homes, blocks = self.transaction()
            self.calls.append(commit(homes, blocks))
            self.remember(homes, blocks)
        else:
            self.calls.append(flush() if kind == FLUSH else settle())
            self.states = self.states[-1:]

    def cut(self):
        kind = self.random.choice([None, COMMIT, FLUSH, SETTLE, MEND])
        after = self.random.randint(0, 14)
        if kind is None:
            self.calls.append(cut(self.row()))
        elif kind == COMMIT:
            homes, blocks = self.transaction()
            self.calls.append(cut_in(after, kind, self.row(), homes, blocks))
            self.remember(homes, blocks)
        else:
            self.calls.append(cut_in(after, kind, self.row()))
        for _ in range(self.random.choice([0, 0, 1, 2])):
            self.calls.append(cut_in(self.random.randint(0, 9), MEND, self.row()))
        self.calls.append(mend())
        self.calls += [read(k) for k in range(self.h)]


class ManyCutsTest(Case):
    def test_what_is_read_is_what_some_first_transactions_made(self):
        for seed in range(150):
            story = Story(seed)
            for _ in range(4):
                for _ in range(story.random.randint(0, 7)):
                    story.step()
                story.cut()
                got = run(*story.calls)
                self.assertGreaterEqual(got[-story.h - 1][0], 0)
                state = [answer[1:] for answer in got[-story.h:]]
                self.assertIn(state, story.states, (seed, story.calls[-story.h - 2][:9]))
                story.states = [state]

    def test_all_is_read_before_a_cut(self):
        for seed in range(50):
            story = Story(seed)
            for _ in range(30):
                story.step()
            got = run(*story.calls, *[read(k) for k in range(story.h)])
            self.assertEqual([answer[1:] for answer in got[-story.h:]], story.states[-1], seed)


if __name__ == "__main__":
    unittest.main()
