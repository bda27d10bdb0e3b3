"""Named parts in one container file."""
