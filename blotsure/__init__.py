"""Blotsure: dot letters that stay readable under blots."""
