"""Rules: who copies a letter to whom, and with how many tokens."""

from satchelmeet.errors import NoRule
from satchelmeet.wholes import is_within

MOST_TOKENS = 64


class Rule:
    """What all rules are; none is made by itself."""

    def __init__(self):
        raise NoRule("a rule is made as AllMet, Halves or Nearer")


class AllMet(Rule):
    """Copies to all that are met."""

    def __init__(self):
        # The one of Rule refuses.
        pass

    def at_first(self):
        return 0

    def share(self, letter, giver, other, tokens):
        return 0


class Halves(Rule):
    """Copies to the wish, and to others while there are tokens to share."""

    def __init__(self, tokens):
        if not is_within(tokens, 1, MOST_TOKENS):
            raise NoRule("there are 1 to 64 tokens")
        self.tokens = tokens

    def at_first(self):
        return self.tokens

    def share(self, letter, giver, other, tokens):
        if other == letter[2]:
            return 0
        return tokens // 2 if tokens >= 2 else None


class Nearer(Rule):
    """Copies to the wish, and to those that met it more often in the past than the giver did."""

    def __init__(self, past):
        self.past = past

    def at_first(self):
        return 0

    def share(self, letter, giver, other, tokens):
        wish = letter[2]
        if other == wish or times_met(self.past, other, wish) > times_met(self.past, giver, wish):
            return 0
        return None


def times_met(book, one, other):
    return len([meeting for meeting in book[1] if meeting[:2] in ((one, other), (other, one))])
