"""Bearerwise: the way of packets between a phone and a net of cells."""
