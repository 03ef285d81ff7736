"""Sinkstack: every work is one triple, and the cheapest one has one told price."""
