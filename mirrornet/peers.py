"""The server's side of a client: what was sent to it, what it is known to have, which of its inputs wait."""

from mirrornet.bodies import follow, followed_key
from mirrornet.packets import Down
from mirrornet.worlds import changes_between, keep_world

MOST_SENT = 16
MOST_FOLLOWED_A_TICK = 4


class Peer:
    def __init__(self, number, body):
        self.number = number
        self.body = body
        self.known_tick = 0
        self.sent = {}
        self.waiting = {}

    def make_down(self, tick, world):
        # The base is chosen ahead of keeping this tick: only ticks sent before this packet count.
        base = self.choose_base()
        changes = changes_between(self.sent.get(base, {}), world)
        keep_world(self.sent, tick, world, MOST_SENT)
        return Down(self.number, tick, base, changes)

    def choose_base(self):
        if self.known_tick in self.sent:
            return self.known_tick
        return 0

    def take_up(self, packet, followed):
        if packet.tick > self.known_tick and packet.tick in self.sent:
            self.known_tick = packet.tick
        for number, push in packet.inputs.items():
            if number > followed and number not in self.waiting:
                self.waiting[number] = push

    def follow_waiting(self, world):
        for turn in range(MOST_FOLLOWED_A_TICK):
            push = self.waiting.pop(world[followed_key(self.body)] + 1, None)
            if push is None:
                return
            follow(world, self.body, push[0], push[1])
