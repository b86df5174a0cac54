"""Measured and paid: a bill of work, what is measured of it, and what is certified."""
