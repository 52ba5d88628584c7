"""Doorbeat: a memory with two doors."""
