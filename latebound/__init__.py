"""Latebound: libraries that are opened and closed while a program runs."""
