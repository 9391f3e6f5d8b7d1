"""Keys and signatures on the curve P-256."""
