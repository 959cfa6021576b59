"""At most three times: places, some of them chosen to be seen from afar."""
