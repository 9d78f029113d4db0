"""Versions of rows in transactions; the calls are answered by rowstamps.store.answers."""
