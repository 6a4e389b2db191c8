"""A chip card: commands in, answers out."""
