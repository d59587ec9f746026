"""What unmeasured streams between tanks must have been, and which meters lie."""
