"""A directory of points: towns, streets, boxes, and the places where letters are handed over."""
