"""Macros: an editor whose commands are recorded and played again."""
