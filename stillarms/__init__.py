"""Exact answers about all poses of arms of bars with weights and springs."""
