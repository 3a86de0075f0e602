"""Nets made from what's seen: the calls are answered in regionnets.nets."""
