"""Poundmeets: boats that go by each other on a canal, and where."""
