"""Mends of gardens: the calls stand in mazemends.garden."""
