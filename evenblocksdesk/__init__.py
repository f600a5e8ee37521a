"""Points in blocks: plans of points, and how evenly they stand together."""
