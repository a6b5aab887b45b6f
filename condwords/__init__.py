"""A processor of ARM's fourth architecture: instructions of 32 bits, each under a condition."""
