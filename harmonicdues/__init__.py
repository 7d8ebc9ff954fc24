"""Harmonicdues: one thing a beat for shares that nobody foresees."""
