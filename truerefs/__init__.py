"""References set again till they're true."""
