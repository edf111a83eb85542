"""Words parted by patterns, and lines placed."""
