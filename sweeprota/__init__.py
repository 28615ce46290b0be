"""Sweeprota: robots that sweep a corridor by signs."""
