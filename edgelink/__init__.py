"""Edgelink: serial links that are synchronized by edges, and chains of relays."""
