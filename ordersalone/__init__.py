"""Told by order alone: what is known of events by who can have heard of whom."""
