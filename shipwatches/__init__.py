"""A ship's watches: who stands when, and how fairly the turn goes."""
