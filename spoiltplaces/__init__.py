"""A tester's house: a small language, and tests that have to hold for all inputs of told shapes."""
