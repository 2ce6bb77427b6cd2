"""Boxheap: boxes, all alike, heaped in the corner of a room."""
