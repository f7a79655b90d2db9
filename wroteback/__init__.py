"""Wroteback: writers that lose nothing."""
