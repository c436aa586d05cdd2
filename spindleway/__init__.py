"""Spindleway: how many steps lie between the two ends of a solid."""
