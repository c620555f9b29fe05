"""One shape that covers the plane."""
