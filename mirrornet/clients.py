"""A client's own side: the worlds that came to it, the inputs that it hasn't forgotten, what it knows of clocks."""

from mirrornet.bodies import follow, followed_key, has_body
from mirrornet.clocks import both_together
from mirrornet.packets import Up
from mirrornet.worlds import keep_world, put_changes

MOST_WORLDS = 16
MOST_INPUTS = 64


class Client:
    def __init__(self, number, body):
        self.number = number
        self.body = body
        self.last_tick = 0
        self.worlds = {}
        self.inputs_made = 0
        self.inputs = {}
        self.bounds = None

    def is_full(self):
        return len(self.inputs) >= MOST_INPUTS

    def make_input(self, ax, ay):
        self.inputs_made += 1
        self.inputs[self.inputs_made] = (ax, ay)
        return self.inputs_made

    def make_up(self):
        # The packet keeps its inputs, even when the client forgets them later.
        return Up(self.number, self.last_tick, dict(self.inputs))

    def take_down(self, packet):
        # Says whether the packet was taken; an old one changes nothing.
        if packet.tick <= self.last_tick:
            return False
        world = put_changes(self.world_of(packet.base), packet.changes)
        keep_world(self.worlds, packet.tick, world, MOST_WORLDS)
        self.last_tick = packet.tick
        # The world may be of a tick ahead of which there was no such body.
        self.forget_inputs(world.get(followed_key(self.body), 0))
        return True

    def world_of(self, tick):
        if tick == 0:
            return {}
        return self.worlds[tick]

    def last_world(self):
        return self.world_of(self.last_tick)

    def guess(self):
        # What came stays as it is: it may be a base, and is shown.
        world = dict(self.last_world())
        if has_body(world, self.body):
            for push in self.inputs.values():
                follow(world, self.body, push[0], push[1])
        return world

    def knows_later_than(self, time):
        return self.bounds is not None and self.bounds.time > time

    def learn_bounds(self, new, drift):
        # Says whether all that was known still holds.
        both = new
        if self.bounds is not None:
            both = both_together(self.bounds.later(new.time, drift), new)
        self.bounds = new if both is None else both
        return both is not None

    def forget_inputs(self, followed):
        for number in list(self.inputs):
            if number <= followed:
                self.inputs.pop(number)
