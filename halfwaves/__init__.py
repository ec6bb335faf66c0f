"""A receiver in complex halves."""
