"""Turnsleft: stretches of pitch exchanged, and the turns that are left."""
