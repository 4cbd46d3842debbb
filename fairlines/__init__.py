"""Fair lines: the nearest one, or none."""
