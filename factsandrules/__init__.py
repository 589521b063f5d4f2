"""What follows from facts by rules, as facts and rules come and go."""
