"""Freshbook: copies lent for a time, by clocks that go unlike."""
