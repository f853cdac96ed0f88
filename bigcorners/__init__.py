"""Bigcorners: charts drawn upward, turnings at a price, and routines that run on their charts."""
