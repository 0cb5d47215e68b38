"""Comments and bookmarks on tracked text."""
