"""A processor of words of thirty-six bits."""
