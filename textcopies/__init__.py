"""A text that several change apart, and bring together."""
