"""What is derived from a book and given facts, found step by step."""


def bits(mask):
    """Return the ascending list of the numbers whose bits a mask has."""
    return [k for k in range(mask.bit_length()) if mask >> k & 1]


class Closure:
    """All facts that are derived from a book and given facts.

    later[u] is a mask that has the bit of v if (u, v) is derived; sooner[v] has that of u then.
    steps is a dict from each derived fact but the (u, u) to the step by which it came first:
    ("given", k), ("chain", m) by way of the moment m, or ("fire", k). The facts stand in it in
    the sequence in which they came, so what a step needs stands ahead of what it brings.
    missing[k] is how many ties of the saying k are not derived both ways yet, waiting has for each
    tie the numbers of its sayings, and ready has those of the sayings that can be fired.
    """

    def __init__(self, book, given):
        n, sayings = book
        self.sayings = sayings
        self.later = [1 << u for u in range(n)]
        self.sooner = [1 << u for u in range(n)]
        self.steps = {}
        self.missing = [len(ties) for ties, _ in sayings]
        self.waiting = {}
        for k, (ties, _) in enumerate(sayings):
            for tie in ties:
                self.waiting.setdefault(tie, []).append(k)
        self.ready = [k for k, many in enumerate(self.missing) if many == 0]
        for k, fact in enumerate(given):
            self.bring(fact, ("given", k))
        self.fire()

    def derived(self, fact):
        """Return whether a fact is derived."""
        if fact is None:
            return None in self.steps
        u, v = fact
        return self.later[u] >> v & 1 == 1

    def fire(self):
        """Fire all sayings that can be fired."""
        while self.ready:
            k = self.ready.pop()
            head = self.sayings[k][1]
            if head is not None:
                self.bring(head, ("fire", k))
            elif None not in self.steps:
                self.steps[None] = ("fire", k)

    def bring(self, fact, step):
        """Learn a pair that a step brings, and all that chains bring by it."""
        if self.derived(fact):
            return
        u, v = fact
        self.learn(u, v, step)
        sources = bits(self.sooner[u])
        for s in sources:
            if not self.derived((s, v)):
                self.learn(s, v, ("chain", u))
            targets = bits(self.later[v] & ~self.later[s])
            for t in targets:
                self.learn(s, t, ("chain", v))

    def learn(self, u, v, step):
        """Put down a new pair, and which sayings have all their ties by it."""
        self.steps[(u, v)] = step
        self.later[u] |= 1 << v
        self.sooner[v] |= 1 << u
        if not self.derived((v, u)):
            return
        for k in self.waiting.get((min(u, v), max(u, v)), []):
            self.missing[k] -= 1
            if self.missing[k] == 0:
                self.ready.append(k)
