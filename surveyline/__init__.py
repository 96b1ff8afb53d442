"""Reachability surveys of a changing object graph."""
