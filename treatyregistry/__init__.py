"""A registry of treaties between states: treatyregistry.registry.answers(calls) answers a list of calls."""
