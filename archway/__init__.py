"""Archway: sentences about texts with calls and returns, kept behind edits."""
