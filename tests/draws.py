"""Numbers that follow one from another by a fixed rule, to draw long rows of things with."""


class Draws:
    """Has those methods of random.Random that the tests use."""

    def __init__(self, seed):
        self.state = seed * 2654435761 + 12345

    def bits(self):
        self.state = (self.state * 6364136223846793005 + 1442695040888963407) % 2 ** 64
        return self.state >> 33

    def randrange(self, low, high=None):
        if high is None:
            low, high = 0, low
        return low + self.bits() % (high - low)

    def random(self):
        return self.bits() / 2 ** 31

    def chance(self, percent):
        return self.randrange(100) < percent

    def choice(self, things):
        return things[self.randrange(len(things))]

    def choices(self, things, k):
        return [self.choice(things) for _ in range(k)]

    def weighted(self, weights):
        """One of the keys of a dict from things to weights."""
        at = self.randrange(sum(weights.values()))
        for thing, weight in weights.items():
            at -= weight
            if at < 0:
                return thing
