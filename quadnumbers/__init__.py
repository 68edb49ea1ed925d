"""Numbers of 113 bits: every answer is the exact result rounded once, with its flags."""
