"""Allworlds: nets of chances, answered exactly with papers."""
