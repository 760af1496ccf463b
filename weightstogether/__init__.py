"""Weights that go together: the calls are in weightstogether.sets."""
