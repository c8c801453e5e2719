"""Houses that keep what comes into their regions, and hear of it late."""
