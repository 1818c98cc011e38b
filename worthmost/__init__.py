"""Worth most: what is worth most of all that can be had for so much."""
