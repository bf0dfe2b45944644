"""A router that is told paths."""
