"""Groups of turnings, relations of compositions."""
