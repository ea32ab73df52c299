"""Nodetour: the fewest stalls that serve a room without a detour."""
