"""The limits of the package."""

MAX_NODES = 12
MAX_ENTRIES = 20
EDITS = 60
BATCH = 20
