"""Everyweave: every different run of a program with threads, once."""
