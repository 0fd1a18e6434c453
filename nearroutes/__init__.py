"""Routes learned from neighbours."""
