"""Perfect graphs, told from seven sides."""
