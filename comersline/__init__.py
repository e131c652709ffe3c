"""Comersline: a queue in which each lets so many newcomers past."""
