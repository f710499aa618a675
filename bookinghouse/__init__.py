"""A booking house over a cluster."""
