"""Baking schedule for rising doughs: when each one can be baked in the one oven."""
