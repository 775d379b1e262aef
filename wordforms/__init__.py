"""Which form a number takes: rules by remainders and ranges."""
