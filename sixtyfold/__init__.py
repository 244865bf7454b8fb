"""Sixtyfold: reckoning by sixties without a point."""
