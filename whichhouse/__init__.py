"""Whichhouse: marks on ties by which walks tell where they end."""
