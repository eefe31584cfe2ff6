"""A picture with its layers, and the file that keeps it."""
