"""Lines of credit between houses, and what can be paid over them."""
