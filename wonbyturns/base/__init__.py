"""What the rest of the package stands on: words, fractions and houses."""
