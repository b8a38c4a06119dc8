"""Replicas that choose who leads, and keep one log."""
