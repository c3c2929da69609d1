"""Dishes asked at tables by courses, bills parted to the penny, and a kitchen's row."""
