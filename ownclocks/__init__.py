"""Ownclocks: stations on belts, each at a clock of its own."""
