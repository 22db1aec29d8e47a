"""Two documents compared into tracked changes."""
