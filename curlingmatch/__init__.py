"""A curling match: what DOC.md says of it is told by curlingmatch.match."""
