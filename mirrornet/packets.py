"""What is under way on the net. A packet never changes: it may come at any time, as often as one likes."""


class Down:
    def __init__(self, client, tick, base, changes):
        self.client = client
        self.tick = tick
        self.base = base
        self.changes = changes


class Up:
    def __init__(self, client, tick, inputs):
        self.client = client
        self.tick = tick
        self.inputs = inputs
