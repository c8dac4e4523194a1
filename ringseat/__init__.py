"""Ringseat: guests on a ring, seated alike whatever came first."""
