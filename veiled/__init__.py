"""Veiled: counts hidden in a table whose sums are shown."""
