"""Loopturn: loops within loops turned about."""
