"""Settings in indented lines: read into a tree, walked, and printed in one form."""
