"""One kind takes over the other."""
