"""Plans of hedge mazes: gardens, and ways in them from A to B."""
