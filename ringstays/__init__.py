"""Ringstays: inlining with present bodies, and passes for every program."""
