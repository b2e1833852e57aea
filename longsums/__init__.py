"""Messages told by long sums: the sums of FIPS 180-4 over 64-bit words, and what is made of them."""
