"""Sayswho: sayings found in runs."""
