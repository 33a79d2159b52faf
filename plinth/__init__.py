"""Plinth: a small machine, its languages, and a tower of compilers."""
