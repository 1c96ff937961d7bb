"""Many requests and answers at once over one stream of bytes each way."""
