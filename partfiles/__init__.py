"""Named parts in one container file, and tables as separated values."""
