"""Placedanyhow: communicating processes on any placement."""
