"""A shield between a program and its operating system, which takes exactly what an honest system can answer."""
