"""Middlewebs: median graphs and the five other forms of the same thing."""
