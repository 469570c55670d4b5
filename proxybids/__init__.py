"""Proxybids: highest bids that a house raises by steps."""
