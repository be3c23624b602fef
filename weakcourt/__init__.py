"""Weakcourt: what a program saw of its collector."""
