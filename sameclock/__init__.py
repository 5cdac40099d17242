"""Sameclock: a compiler whose code takes the same time for all secrets."""
