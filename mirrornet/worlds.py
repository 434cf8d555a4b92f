"""Worlds are dicts from keys to values; here is what changes one into another."""


def changes_between(before, after):
    # Values are whole numbers, so None is free to stand for a key that isn't there.
    changes = []
    for key in sorted(set(before) | set(after)):
        was = before.get(key)
        now = after.get(key)
        if was != now:
            changes.append((key, was, now))
    return changes


def put_changes(base, changes):
    # The base may be the base of later packets too, so it stays as it is.
    world = dict(base)
    for key, was, now in changes:
        if now is None:
            world.pop(key)
        else:
            world[key] = now
    return world


def listed(world):
    told = [len(world)]
    for key in sorted(world):
        told.extend([key, world[key]])
    return told


def keep_world(worlds, tick, world, most):
    # A tick that is kept already takes no second place.
    worlds[tick] = world
    if len(worlds) > most:
        worlds.pop(min(worlds))
