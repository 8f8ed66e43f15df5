"""Ways through gardens of hedges: the calls stand in hedgeways.gardens."""
