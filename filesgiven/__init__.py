"""Files given to others over a net: each packet that comes is answered by one packet."""
