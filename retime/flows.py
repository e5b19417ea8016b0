"""Greatest flows between the nodes that conflict.

In a cheapest repair each node that is not kept either is before kept nodes or comes
after kept nodes. So the cheapest repairs are the least cuts of a network with two
places for each node, one that sends and one that receives, each with the price as its
limit, and with an unlimited way from each node to each one that it is before.
"""


class Flow:
    """A greatest flow along pairs of nodes, none of which sends or receives more than its limit."""

    def __init__(self, pairs, limits):
        self.limits = limits
        self.after = {node: [] for node in limits}
        self.before = {node: [] for node in limits}
        self.amounts = {}
        for first, second in pairs:
            self.after[first].append(second)
            self.before[second].append(first)
            self.amounts[(first, second)] = 0
        self.sent = {node: 0 for node in limits}
        self.received = {node: 0 for node in limits}
        self.senders = {}
        self.receivers = {}
        last = self.search()
        while last is not None:
            self.send_to(last)
            last = self.search()

    def total(self):
        """Return the sum of the flow, which is the least price."""
        return sum(self.sent.values())

    def kept(self):
        """Return the list of the nodes that the highest cheapest repair keeps, in the order of the limits."""
        # What the last search reached is one side of the smallest least cut. The cut
        # goes through one place of each node that is not kept, and through none of the others.
        return [node for node in self.limits if node in self.senders and node not in self.receivers]

    def search(self):
        """Return a node that can receive more, or None; keep the nodes from which each place was reached."""
        level = [node for node in self.limits if self.sent[node] < self.limits[node]]
        self.senders = {node: None for node in level}
        self.receivers = {}
        while level:
            further = []
            for first in level:
                for second in self.after[first]:
                    if second in self.receivers:
                        continue
                    self.receivers[second] = first
                    if self.received[second] < self.limits[second]:
                        return second
                    further.extend(self.relieved_by(second))
            level = further
        return None

    def relieved_by(self, second):
        """Return the list of the further nodes that could send elsewhere what they send to a node."""
        found = []
        for other in self.before[second]:
            if other not in self.senders and self.amounts[(other, second)] > 0:
                self.senders[other] = second
                found.append(other)
        return found

    def send_to(self, last):
        """Send as much as possible along the way on which the last search reached a node."""
        more = [(self.receivers[last], last)]
        less = []
        start = self.receivers[last]
        while self.senders[start] is not None:
            second = self.senders[start]
            less.append((start, second))
            start = self.receivers[second]
            more.append((start, second))
        amount = min(self.limits[start] - self.sent[start], self.limits[last] - self.received[last])
        amount = min([amount] + [self.amounts[pair] for pair in less])
        for pair in more:
            self.amounts[pair] += amount
        for pair in less:
            self.amounts[pair] -= amount
        self.sent[start] += amount
        self.received[last] += amount
