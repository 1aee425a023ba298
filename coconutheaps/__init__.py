"""Coconuts shared: nights of shares, and the heaps that go with them."""
