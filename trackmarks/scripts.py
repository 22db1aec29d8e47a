"""Scripts from an old text to a new one, and the one chosen."""

from trackmarks.letters import difference
from trackmarks.tokens import tokens_of, word_of

KEEP = 0
DROP = 1
PUT = 2


def keep_cost(old_token, new_token):
    return sum([difference(one, other) for one, other in zip(old_token, new_token)])


def keep_row(old_token, new_tokens, new_words):
    """What it costs to keep an old token as each new one, None where they are not of one word."""
    word = word_of(old_token)
    row = []
    for place, new_token in enumerate(new_tokens):
        row.append(keep_cost(old_token, new_token) if new_words[place] == word else None)
    return row


def keep_table(old_tokens, new_tokens):
    """At [i][j] what it costs to keep old token i as new token j, None if that can't be."""
    new_words = [word_of(token) for token in new_tokens]
    # A text repeats its tokens, and like tokens have like rows: each is worked out once.
    known = {}
    table = []
    for old_token in old_tokens:
        key = tuple(old_token)
        if key not in known:
            known[key] = keep_row(old_token, new_tokens, new_words)
        table.append(known[key])
    return table


def last_cost_row(new_sizes):
    """No old token is left, so all that is left is put."""
    costs = [0]
    for size in reversed(new_sizes):
        costs.append(costs[-1] + size)
    costs.reverse()
    return costs


def cost_row(old_size, new_sizes, keeps, below):
    """The row for an old token, from the row for the old token behind it."""
    costs = [cost + old_size for cost in below]
    for place in range(len(new_sizes) - 1, -1, -1):
        least = costs[place]
        with_put = costs[place + 1] + new_sizes[place]
        if with_put < least:
            least = with_put
        keep = keeps[place]
        if keep is not None and below[place + 1] + keep < least:
            least = below[place + 1] + keep
        costs[place] = least
    return costs


def cost_table(old_sizes, new_sizes, keeps):
    """At [i][j] the least cost of going on when i old and j new tokens are taken.

    It looks from each place to the end, because the script is chosen from the
    front and must know what each first step leaves to be paid.
    """
    table = [last_cost_row(new_sizes)]
    for place in range(len(old_sizes) - 1, -1, -1):
        table.append(cost_row(old_sizes[place], new_sizes, keeps[place], table[-1]))
    table.reverse()
    return table


class Scripts:
    """All scripts from an old text to a new one: their tokens, what can be kept, the least costs."""

    def __init__(self, old_text, new_text, grain):
        self.old_tokens = tokens_of(old_text, grain)
        self.new_tokens = tokens_of(new_text, grain)
        self.old_sizes = [len(token) for token in self.old_tokens]
        self.new_sizes = [len(token) for token in self.new_tokens]
        self.keeps = keep_table(self.old_tokens, self.new_tokens)
        self.costs = cost_table(self.old_sizes, self.new_sizes, self.keeps)
        self.last_ends_cost = difference(old_text[-1], new_text[-1])

    def least_cost(self):
        return self.costs[0][0] + self.last_ends_cost

    def may_keep(self, i, j):
        if i == len(self.old_sizes) or j == len(self.new_sizes):
            return False
        keep = self.keeps[i][j]
        return keep is not None and self.costs[i][j] == self.costs[i + 1][j + 1] + keep

    def may_drop(self, i, j):
        return i < len(self.old_sizes) and self.costs[i][j] == self.costs[i + 1][j] + self.old_sizes[i]

    def step_from(self, i, j):
        if self.may_keep(i, j):
            return KEEP
        if self.may_drop(i, j):
            return DROP
        return PUT

    def chosen_steps(self):
        """The steps, each with how many old and how many new tokens are taken before it."""
        steps = []
        i = 0
        j = 0
        while i < len(self.old_sizes) or j < len(self.new_sizes):
            step = self.step_from(i, j)
            steps.append((step, i, j))
            if step != PUT:
                i += 1
            if step != DROP:
                j += 1
        return steps
