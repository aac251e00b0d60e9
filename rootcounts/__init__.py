"""Real root counting with Sturm chains, exact over rational numbers."""
