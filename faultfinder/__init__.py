"""Which part of a circuit is broken."""
