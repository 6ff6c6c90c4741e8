"""Endlessnets: nets that go on for ever, told by one cell."""
