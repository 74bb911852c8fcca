"""Callbells: interrupts led to processors that come and go."""
