"""Farscale: how near things are, on any scale handed in."""
