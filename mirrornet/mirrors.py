"""The program's interface: a line of calls is read one behind another, and each is answered."""

from mirrornet.client_calls import judge_shot, render, tell_base, tell_guess, tell_ring
from mirrornet.clock_calls import exchange, set_drift, tell_offset
from mirrornet.net import Net
from mirrornet.packet_calls import deliver, add_input, send_down, send_up, tell_packet
from mirrornet.world_calls import make_body, make_client, run_tick, set_key, tell_counts, tell_world, unset_key

# How many numbers stand behind each call's number.
ARGUMENTS = (5, 2, 2, 1, 0, 1, 1, 1, 3, 0, 1, 1, 4, 7, 4, 2, 1, 1, 0, 1)


def answer_call(net, call, row):
    if call < 10:
        return answer_first_ten(net, call, row)
    return answer_last_ten(net, call, row)


def answer_first_ten(net, call, row):
    if call == 0:
        return make_body(net, row[0], row[1], row[2], row[3], row[4])
    if call == 1:
        return make_client(net, row[0], row[1])
    if call == 2:
        return set_key(net, row[0], row[1])
    if call == 3:
        return unset_key(net, row[0])
    if call == 4:
        return run_tick(net)
    if call == 5:
        return send_down(net, row[0])
    if call == 6:
        return send_up(net, row[0])
    if call == 7:
        return deliver(net, row[0])
    if call == 8:
        return add_input(net, row[0], row[1], row[2])
    return tell_world(net)


def answer_last_ten(net, call, row):
    if call == 10:
        return tell_base(net, row[0])
    if call == 11:
        return tell_guess(net, row[0])
    if call == 12:
        return render(net, row[0], row[1], row[2], row[3])
    if call == 13:
        return judge_shot(net, row[0], row[1], row[2], row[3], row[4], row[5], row[6])
    if call == 14:
        return exchange(net, row[0], row[1], row[2], row[3])
    if call == 15:
        return tell_offset(net, row[0], row[1])
    if call == 16:
        return set_drift(net, row[0])
    if call == 17:
        return tell_packet(net, row[0])
    if call == 18:
        return tell_counts(net)
    return tell_ring(net, row[0])


def answers(calls):
    net = Net()
    told = []
    at = 0
    while at < len(calls):
        first = at + 1
        behind = first + ARGUMENTS[calls[at]]
        answer = answer_call(net, calls[at], calls[first:behind])
        told.append(len(answer))
        told.extend(answer)
        at = behind
    return told
