"""The seams of a hull, welded in order."""
