"""The kinds of closers that have a word."""

from closerworks.convex import is_convex
from closerworks.exchange import has_exchange
from closerworks.orders import is_distributive, is_modular
from closerworks.topologies import is_topology

KINDS = ("modular", "distributive", "topology", "convex", "exchange")


def is_kind_word(value):
    """Tell whether a value is the word for a kind."""
    return isinstance(value, str) and value in KINDS


def is_of_kind(closer, word):
    """Tell whether a closer is of the kind with this word."""
    asked = {"modular": is_modular, "distributive": is_distributive, "topology": is_topology, "convex": is_convex,
             "exchange": has_exchange}
    action = asked[word]
    return action(closer)
