"""Values packed by a schema; the calls are in thinbits.packing."""
