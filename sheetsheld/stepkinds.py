"""The steps of a patch, as pairs of a kind and what goes with it.

(KEEP, pairs of a place and the cell that is set there), (GONE, ()) or (PUT, a row).
"""

KEEP = 0
GONE = 1
PUT = 2
