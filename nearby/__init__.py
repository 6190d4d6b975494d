"""Nearby: local computation on networks."""
