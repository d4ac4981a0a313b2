"""Takenout: orders led to orders by taking one thing out and putting it in again."""
