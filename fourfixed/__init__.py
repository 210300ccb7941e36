"""Four numbers with fractions in one: see fourfixed.vectors."""
