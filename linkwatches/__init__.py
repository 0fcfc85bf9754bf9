"""Links and watches between processes, told by signals that are on their way for a while."""
