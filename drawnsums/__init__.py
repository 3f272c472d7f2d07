"""Multiplied out: figures whose points are sums of products of letters."""
