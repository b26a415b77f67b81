"""Binary floating-point numbers to decimal digits and back."""
