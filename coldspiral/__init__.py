"""A hardening spiral: trays that go through cold air on a chain."""
