"""Barewire: words told by one line without a clock."""
