"""Camera sheets: the field, its dials, and what the camera sees."""
