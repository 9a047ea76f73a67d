"""Settings in layers: what holds when four texts speak, each stronger than the one before."""
