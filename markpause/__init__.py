"""Markpause: a collector that works a few boxes at a time."""
