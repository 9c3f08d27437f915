"""A small machine of a public 64-bit instruction set; smallcore.desk answers calls on it."""
