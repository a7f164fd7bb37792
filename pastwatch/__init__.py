"""Past-time rules over a row of entries."""
