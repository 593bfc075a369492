"""A room for one, with tickets drawn by looking at all the others' tickets."""
