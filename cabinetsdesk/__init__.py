"""A cabinet formed: parties in a hall, who can govern, and who holds which office."""
