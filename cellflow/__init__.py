"""A fluid on a grid, every bit of it told."""
