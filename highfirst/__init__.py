"""A 32-bit processor of the highest byte first: highfirst.desk.step does one instruction, run does several."""
