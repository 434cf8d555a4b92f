"""Mirrors over a bad net: a server's world, tick by tick, and clients that mirror it."""
