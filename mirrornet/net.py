"""All that one line of calls has: the server's world, the clients on both sides, the packets, the drift."""

from mirrornet.bodies import followed_key
from mirrornet.clients import Client
from mirrornet.peers import Peer
from mirrornet.worlds import keep_world

GREATEST_TICK = 10000
MOST_KEPT = 64
MOST_CLIENTS = 4
MOST_PACKETS = 200


class Net:
    def __init__(self):
        self.world = {}
        self.tick = 0
        self.kept = {}
        self.clients = {}
        self.peers = {}
        self.packets = []
        self.drift = 0

    def clients_full(self):
        return len(self.clients) >= MOST_CLIENTS

    def packets_full(self):
        return len(self.packets) >= MOST_PACKETS

    def body_is_taken(self, body):
        return any([client.body == body for client in self.clients.values()])

    def some_clock_is_known(self):
        return any([client.bounds is not None for client in self.clients.values()])

    def add_client(self, number, body):
        self.clients[number] = Client(number, body)
        self.peers[number] = Peer(number, body)

    def followed_by(self, number):
        return self.world[followed_key(self.peers[number].body)]

    def advance(self):
        for peer in self.peers.values():
            peer.follow_waiting(self.world)
        self.tick += 1
        # What is set from now on belongs to the next tick's world.
        keep_world(self.kept, self.tick, dict(self.world), MOST_KEPT)

    def add_packet(self, packet):
        self.packets.append(packet)
        return len(self.packets) - 1
