"""The calls on packets and on what goes into them: send, up, deliver, input, packet."""

from mirrornet.bodies import is_push
from mirrornet.packets import Down
from mirrornet.refusals import FULL, NO_SUCH, NO_TICK_YET, OUT_OF_RANGE


def send_down(net, number):
    if number not in net.peers:
        return [NO_SUCH]
    if net.tick == 0:
        return [NO_TICK_YET]
    if net.packets_full():
        return [FULL]
    packet = net.peers[number].make_down(net.tick, net.kept[net.tick])
    return [0, net.add_packet(packet), packet.tick, packet.base, len(packet.changes)]


def send_up(net, number):
    if number not in net.clients:
        return [NO_SUCH]
    if net.packets_full():
        return [FULL]
    packet = net.clients[number].make_up()
    return [0, net.add_packet(packet), packet.tick, len(packet.inputs)]


def deliver(net, place):
    if not 0 <= place < len(net.packets):
        return [NO_SUCH]
    packet = net.packets[place]
    if isinstance(packet, Down):
        taken = net.clients[packet.client].take_down(packet)
        return [0, 0 if taken else 1]
    peer = net.peers[packet.client]
    peer.take_up(packet, net.followed_by(packet.client))
    return [0, peer.known_tick, len(peer.waiting)]


def add_input(net, number, ax, ay):
    if number not in net.clients:
        return [NO_SUCH]
    if not (is_push(ax) and is_push(ay)):
        return [OUT_OF_RANGE]
    client = net.clients[number]
    if client.is_full():
        return [FULL]
    return [0, client.make_input(ax, ay)]


def tell_packet(net, place):
    if not 0 <= place < len(net.packets):
        return [NO_SUCH]
    packet = net.packets[place]
    if isinstance(packet, Down):
        return [0] + told_down(packet)
    return [0] + told_up(packet)


def told_down(packet):
    told = [0, packet.client, packet.tick, packet.base, len(packet.changes)]
    for key, was, now in packet.changes:
        told.append(key)
        told.extend(told_value(was))
        told.extend(told_value(now))
    return told


def told_value(value):
    if value is None:
        return [0, 0]
    return [1, value]


def told_up(packet):
    told = [1, packet.client, packet.tick, len(packet.inputs)]
    for number, push in packet.inputs.items():
        told.extend([number, push[0], push[1]])
    return told
